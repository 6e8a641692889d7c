"""A house that keeps every value, and tells the answers of the document from these alone.

It shares nothing with the program: its accounts are lists of all values told, so putting accounts
together is putting lists together, and which buckets are kept is read from the whole list.
"""

from fractions import Fraction


def end(k, i):
    return (k + 1) ** i // (k - 1) ** i


def begin(k, i):
    return 1 if i == 0 else end(k, i - 1) + 1


ENDS = {}


def bucket(k, value):
    """The one bucket that has the value between its beginning and its end."""
    if k not in ENDS:
        ends = [1]
        while ends[-1] < 10 ** 9:
            ends.append(end(k, len(ends)))
        ENDS[k] = ends
    found = [i for i, last in enumerate(ENDS[k]) if value <= last and (i == 0 or value > ENDS[k][i - 1])]
    assert len(found) == 1
    return found[0]


class Values:
    """All values of an account, as (value, times) by value: a million of the same are one pair."""

    def __init__(self, k, m):
        self.k = k
        self.m = m
        self.times = {}

    def count(self):
        return sum(self.times.values())

    def buckets(self):
        """All that have values, the lowest first, whether they are kept or not."""
        return sorted({bucket(self.k, value) for value in self.times if value > 0})

    def kept(self):
        return self.buckets()[-self.m:]

    def cut(self):
        return len(self.buckets()) > self.m

    def value_at(self, rank):
        for value in sorted(self.times):
            if rank < self.times[value]:
                return value
            rank -= self.times[value]
        raise AssertionError("no such rank")

    def in_lowest_of_cut(self, value):
        return value > 0 and self.cut() and bucket(self.k, value) <= self.kept()[0]

    def ends_at(self, rank):
        value = self.value_at(rank)
        if value == 0:
            return 0, 0
        counted = max(bucket(self.k, value), self.kept()[0])
        low = 1 if self.in_lowest_of_cut(value) else begin(self.k, counted)
        return max(low, min(self.times)), min(end(self.k, counted), max(self.times))

    def rank(self, rank):
        x, y = self.ends_at(rank)
        between = Fraction(2 * x * y, x + y) if y else Fraction(0)
        return [rank, x, y, between.numerator, between.denominator]


class Model:
    def __init__(self):
        self.begin(10, 20, 1)

    def begin(self, k, m, accounts):
        if k not in range(3, 41) or m not in range(1, 201) or accounts not in range(1, 7):
            return [-1]
        self.k, self.m = k, m
        self.accounts = [Values(k, m) for _ in range(accounts)]
        return [0]

    def add(self, account, value, times):
        if account >= len(self.accounts):
            return [-2]
        if value > 10 ** 9 or times > 10 ** 6:
            return [-1]
        values = self.accounts[account]
        if times:
            values.times[value] = values.times.get(value, 0) + times
        return [values.count(), len(values.kept())]

    def join(self, account, other):
        if max(account, other) >= len(self.accounts):
            return [-2]
        if account == other:
            return [-1]
        values = self.accounts[account]
        for value, times in self.accounts[other].times.items():
            values.times[value] = values.times.get(value, 0) + times
        return [values.count(), len(values.kept())]

    def clear(self, account):
        if account >= len(self.accounts):
            return [-2]
        self.accounts[account] = Values(self.k, self.m)
        return [0]

    def rank(self, account, r):
        if account >= len(self.accounts):
            return [-2]
        if r >= self.accounts[account].count():
            return [-3]
        return self.accounts[account].rank(r)

    def answer(self, call):
        names = {1: self.begin, 2: self.add, 3: self.join, 4: self.clear, 5: self.rank}
        return names[call[0]](*call[1:])
