"""The promises 1, 2 and 4, of what accounts keep and of their ranks."""

import random
import unittest
from fractions import Fraction

from lines import add, ask, begin, join, rank
from model import Values, bucket
from samples import FINENESSES, some_values
from widebuckets.account import Account


def seen(account):
    """All that an account keeps, by number, so that two that are the same look the same."""
    kept = dict(vars(account))
    kept["counts"] = sorted(account.counts.items())
    return kept


def told(k, m, values):
    account = Account(k, m)
    for value in values:
        account.tell(value, 1)
    return account


def as_a_tree(source, k, m, values):
    """Accounts of some values each, put together two by two until one is left."""
    parts = [[] for _ in range(source.randrange(1, 9))]
    for value in values:
        source.choice(parts).append(value)
    accounts = [told(k, m, part) for part in parts]
    while len(accounts) > 1:
        source.shuffle(accounts)
        other = accounts.pop()
        stays = seen(other)
        accounts[-1].put_together(other)
        assert seen(other) == stays
    return accounts[0]


class SameHoweverItCameToBe(unittest.TestCase):
    def cases(self):
        source = random.Random(1)
        for _ in range(300):
            k = source.choice(FINENESSES)
            m = source.choice((1, 2, 3, 5, 8, 20, 200))
            yield source, k, m, some_values(source, source.randrange(0, 40))

    def test_in_any_order(self):
        for source, k, m, values in self.cases():
            expected = seen(told(k, m, values))
            for order in (sorted(values), sorted(values, reverse=True), source.sample(values, len(values))):
                self.assertEqual(seen(told(k, m, order)), expected)

    def test_several_times_at_once(self):
        for source, k, m, values in self.cases():
            values = values + [value for value in values if value % 2]
            account = Account(k, m)
            for value in source.sample(sorted(set(values)), len(set(values))):
                account.tell(value, values.count(value))
            self.assertEqual(seen(account), seen(told(k, m, values)))

    def test_in_any_tree(self):
        for source, k, m, values in self.cases():
            expected = seen(told(k, m, values))
            for _ in range(4):
                self.assertEqual(seen(as_a_tree(source, k, m, values)), expected)

    def test_told_and_put_together_by_turns(self):
        for source, k, m, values in self.cases():
            first, second, third = values[::3], values[1::3], values[2::3]
            account = told(k, m, first)
            account.put_together(told(k, m, second))
            for value in third:
                account.tell(value, 1)
            self.assertEqual(seen(account), seen(told(k, m, values)))

    def test_by_calls(self):
        source = random.Random(2)
        for _ in range(150):
            k, m = source.choice(FINENESSES), source.choice((1, 2, 3, 5, 20, 200))
            values = some_values(source, 20)
            looked_at = range(21)
            alone = ask(begin(k, m, 1), *[add(0, v) for v in values], *[rank(0, r) for r in looked_at])
            calls = [begin(k, m, 6)] + [add(source.randrange(6), v) for v in source.sample(values, 20)]
            left = list(range(6))
            source.shuffle(left)
            while len(left) > 1:
                other = left.pop(source.randrange(len(left)))
                calls.append(join(source.choice(left), other))
            calls += [rank(left[0], r) for r in looked_at]
            given = ask(*calls)
            self.assertEqual(given[-21:], alone[-21:])
            self.assertEqual(given[-22], alone[-22])

    def test_what_is_kept_is_that_of_all_values(self):
        for source, k, m, values in self.cases():
            account = as_a_tree(source, k, m, values)
            self.assertEqual(account.total, len(values))
            self.assertEqual(account.amount, sum(values))
            self.assertEqual(account.least, min(values, default=0))
            self.assertEqual(account.greatest, max(values, default=0))
            self.assertEqual(account.zeros, values.count(0))
            self.assertEqual(account.zeros + sum(account.counts.values()), len(values))


class ValueOfRankLiesBetween(unittest.TestCase):
    def check(self, k, m, values):
        known = Values(k, m)
        for value in values:
            known.tell(value, 1)
        given = ask(begin(k, m, 1), *[add(0, v) for v in values], *[rank(0, r) for r in range(len(values))])
        for r, (value, answer) in enumerate(zip(sorted(values), given[1 + len(values):], strict=True)):
            place, low, high, top, bottom = answer
            self.assertEqual(place, r)
            self.assertTrue(low <= value <= high, (k, m, values, r))
            self.assertTrue(low <= Fraction(top, bottom) <= high)
            self.assertEqual((Fraction(top, bottom).numerator, Fraction(top, bottom).denominator), (top, bottom))
            if not known.in_lowest_of_cut(value):
                self.assertLessEqual(abs(Fraction(top, bottom) - value) * k, value, (k, m, values, r))

    def test_all_ranks_of_many_values(self):
        source = random.Random(3)
        for _ in range(400):
            self.check(source.choice(FINENESSES), source.choice((1, 2, 4, 10, 200)), some_values(source, 25))

    def test_edges_of_buckets(self):
        for k in FINENESSES:
            ends = [(k + 1) ** i // (k - 1) ** i for i in range(0, 500)]
            ends = [last for last in ends if last < 10 ** 9]
            source = random.Random(4)
            for _ in range(20):
                some = source.sample(ends, min(12, len(ends)))
                values = sorted(some + [last + 1 for last in some])
                for m in (3, 200):
                    self.check(k, m, values)

    def test_every_small_value(self):
        for k in range(3, 41):
            for m in (1, 5, 200):
                self.check(k, m, list(range(0, 28)))


class HighestBucketsAreKept(unittest.TestCase):
    def test_of_all_that_have_values(self):
        source = random.Random(5)
        for _ in range(300):
            k, m = source.choice(FINENESSES), source.choice((1, 2, 3, 5, 8, 20, 200))
            values = some_values(source, source.randrange(0, 60))
            full = sorted({bucket(k, value) for value in values if value > 0})
            account = as_a_tree(source, k, m, values)
            self.assertEqual(sorted(account.counts), full[-m:])
            self.assertEqual(account.is_cut, len(full) > m)
            for number in full[-m:][1:]:
                self.assertEqual(account.counts[number], len([v for v in values if v > 0 and bucket(k, v) == number]))

    def test_two_hundred(self):
        # Each value is in a bucket of its own, so the 201st cuts the account.
        values = [41 ** i // 39 ** i for i in range(200, 401)]
        account = told(40, 200, values[1:])
        self.assertEqual((len(account.counts), account.is_cut), (200, False))
        account.tell(values[0], 1)
        self.assertEqual((len(account.counts), account.is_cut, account.counts[201]), (200, True, 2))
