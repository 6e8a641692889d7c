"""A house that keeps every value, and tells the answers of the document from these alone.

It shares nothing with the program: its accounts are lists of all values told, so putting accounts
together is putting lists together, and which buckets are kept is read from the whole list.
"""

from fractions import Fraction
from functools import cache
from math import floor


@cache
def end(k, i):
    return (k + 1) ** i // (k - 1) ** i


def begin(k, i):
    return 1 if i == 0 else end(k, i - 1) + 1


@cache
def all_ends(k):
    ends = [1]
    while ends[-1] < 10 ** 9:
        ends.append(end(k, len(ends)))
    return ends


@cache
def bucket(k, value):
    """The one bucket that has the value between its beginning and its end."""
    ends = all_ends(k)
    found = [i for i, last in enumerate(ends) if value <= last and (i == 0 or value > ends[i - 1])]
    assert len(found) == 1
    return found[0]


class Values:
    """All values of an account, as (value, times) by value: a million of the same are one pair."""

    def __init__(self, k, m):
        self.k = k
        self.m = m
        self.times = {}

    def tell(self, value, times):
        if times:
            self.times[value] = self.times.get(value, 0) + times

    def count(self):
        return sum(self.times.values())

    def buckets(self):
        """All that have values, the lowest first, whether they are kept or not."""
        return sorted({bucket(self.k, value) for value in self.times if value > 0})

    def kept(self):
        return self.buckets()[-self.m:]

    def cut(self):
        return len(self.buckets()) > self.m

    def value_at(self, rank):
        for value in sorted(self.times):
            if rank < self.times[value]:
                return value
            rank -= self.times[value]
        raise AssertionError("no such rank")

    def in_lowest_of_cut(self, value):
        return value > 0 and self.cut() and bucket(self.k, value) <= self.kept()[0]

    def counted_in(self, value):
        return max(bucket(self.k, value), self.kept()[0])

    def ends_of(self, value):
        if value == 0:
            return 0, 0
        counted = self.counted_in(value)
        low = 1 if self.in_lowest_of_cut(value) else begin(self.k, counted)
        return max(low, min(self.times)), min(end(self.k, counted), max(self.times))

    def rank(self, rank):
        x, y = self.ends_of(self.value_at(rank))
        between = Fraction(2 * x * y, x + y) if y else Fraction(0)
        return [rank, x, y, between.numerator, between.denominator]

    def up_to(self, v):
        """Value by value, not bucket by bucket."""
        ends = [(self.ends_of(value), times) for value, times in self.times.items()]
        return [sum(times for (x, y), times in ends if y <= v), sum(times for (x, y), times in ends if x <= v)]

    def account(self):
        total = sum(value * times for value, times in self.times.items())
        least, greatest = (min(self.times), max(self.times)) if self.times else (0, 0)
        return [self.count(), self.times.get(0, 0), total, least, greatest, int(self.cut())]

    def told_buckets(self):
        kept = self.kept()
        counts = dict.fromkeys(kept, 0)
        for value, times in self.times.items():
            if value > 0:
                counts[self.counted_in(value)] += times
        return [len(kept)] + [number for i in kept for number in (i, counts[i])]


class Model:
    def __init__(self):
        self.begin(10, 20, 1)

    def begin(self, k, m, accounts):
        if k not in range(3, 41) or m not in range(1, 201) or accounts not in range(1, 7):
            return [-1]
        self.k, self.m = k, m
        self.accounts = [Values(k, m) for _ in range(accounts)]
        return [0]

    def add(self, account, value, times):
        if account >= len(self.accounts):
            return [-2]
        if value > 10 ** 9 or times > 10 ** 6:
            return [-1]
        values = self.accounts[account]
        values.tell(value, times)
        return [values.count(), len(values.kept())]

    def join(self, account, other):
        if max(account, other) >= len(self.accounts):
            return [-2]
        if account == other:
            return [-1]
        values = self.accounts[account]
        for value, times in self.accounts[other].times.items():
            values.tell(value, times)
        return [values.count(), len(values.kept())]

    def clear(self, account):
        if account >= len(self.accounts):
            return [-2]
        self.accounts[account] = Values(self.k, self.m)
        return [0]

    def rank(self, account, r):
        if account >= len(self.accounts):
            return [-2]
        if r >= self.accounts[account].count():
            return [-3]
        return self.accounts[account].rank(r)

    def part(self, account, p, q):
        if account >= len(self.accounts):
            return [-2]
        if q == 0 or p > q:
            return [-1]
        count = self.accounts[account].count()
        if count == 0:
            return [-3]
        return self.accounts[account].rank(floor(Fraction(p, q) * (count - 1)))

    def up_to(self, account, v):
        return self.accounts[account].up_to(v) if account < len(self.accounts) else [-2]

    def account(self, account):
        return self.accounts[account].account() if account < len(self.accounts) else [-2]

    def buckets(self, account):
        return self.accounts[account].told_buckets() if account < len(self.accounts) else [-2]

    def edges(self, i):
        if i > 1000 or end(self.k, i) > 10 ** 18:
            return [-1]
        return [begin(self.k, i), end(self.k, i)]

    def answer(self, call):
        names = {1: self.begin, 2: self.add, 3: self.join, 4: self.clear, 5: self.rank,
                 6: self.part, 7: self.up_to, 8: self.account, 9: self.buckets, 10: self.edges}
        return names[call[0]](*call[1:])
