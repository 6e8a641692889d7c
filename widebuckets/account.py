"""What an account keeps of the values that it was told."""

from widebuckets.buckets import bucket_of


class Account:
    def __init__(self, fineness, most):
        self.fineness = fineness
        self.most = most
        self.total = 0
        self.amount = 0
        self.least = 0
        self.greatest = 0
        self.zeros = 0
        self.counts = {}
        self.is_cut = False

    def tell(self, value, times):
        # A value told 0 times must not become the least or the greatest, nor get a bucket.
        if times == 0:
            return
        self.take_in(times, value * times, value, value)
        if value == 0:
            self.zeros += times
        else:
            self.count_in(max(bucket_of(self.fineness, value), self.floor()), times)
            self.give_up_lowest()

    def put_together(self, other):
        # The 0s that stand for least and greatest where nothing was told are no values.
        if other.total == 0:
            return
        self.take_in(other.total, other.amount, other.least, other.greatest)
        self.zeros += other.zeros
        self.counts = counts_of_both(self.counts, other.counts, max(self.floor(), other.floor()))
        self.is_cut = self.is_cut or other.is_cut
        self.give_up_lowest()

    def take_in(self, total, amount, least, greatest):
        if self.total == 0:
            self.least = least
            self.greatest = greatest
        else:
            self.least = min(self.least, least)
            self.greatest = max(self.greatest, greatest)
        self.total += total
        self.amount += amount

    def floor(self):
        """The bucket below which nothing is counted; 0 is below none."""
        if self.is_cut:
            return min(self.counts)
        return 0

    def count_in(self, number, times):
        self.counts[number] = self.counts.get(number, 0) + times

    def give_up_lowest(self):
        while len(self.counts) > self.most:
            times = self.counts.pop(min(self.counts))
            self.count_in(min(self.counts), times)
            self.is_cut = True


def counts_of_both(one, other, floor):
    counts = {}
    for source in (one, other):
        for number in source:
            place = max(number, floor)
            counts[place] = counts.get(place, 0) + source[number]
    return counts
