"""The promises 1 to 4 by what the calls account, buckets, up to, part and rank tell."""

import random
import unittest
from fractions import Fraction

from lines import TOP, account, add, ask, begin, buckets, join, part, rank, up_to
from model import Values, begin as beginning, bucket, end
from samples import FINENESSES, some_values

MOSTS = (1, 2, 3, 5, 8, 20, 200)


def around_all_ends(k, values):
    """Each end of each bucket that has values, the least and the greatest, each with what's beside it."""
    ends = {0, 1, TOP}
    for value in values:
        ends.add(value)
        if value > 0:
            ends.update((beginning(k, bucket(k, value)), end(k, bucket(k, value))))
    return sorted({near for place in ends for near in (place - 1, place, place + 1) if 0 <= near <= TOP})


def asked(told, questions):
    """The answers to all questions, over as many lines as they need: each line is told all anew."""
    given = []
    room = 60 - len(told)
    for start in range(0, len(questions), room):
        given += ask(*told, *questions[start:start + room])[len(told):]
    return given


def questions_on(number, k, values):
    parts = [(0, 1), (1, 1), (1, 2), (1, 3), (2, 3), (99, 100), (999, 1000), (1, TOP), (TOP - 1, TOP), (TOP, TOP)]
    return ([account(number), buckets(number)] + [up_to(number, v) for v in around_all_ends(k, values)]
            + [part(number, p, q) for p, q in parts] + [rank(number, r) for r in range(len(values) + 1)])


def in_a_tree(source, k, m, values):
    """The calls that tell the values to six accounts and put these together, and which one is all then."""
    calls = [begin(k, m, 6)] + [add(source.randrange(6), v) for v in source.sample(values, len(values))]
    left = list(range(6))
    while len(left) > 1:
        other = left.pop(source.randrange(len(left)))
        calls.append(join(source.choice(left), other))
    return calls, left[0]


def in_pairs(k, m, values):
    """A balanced tree: four accounts, two and two, then both; each is told a run of the values."""
    calls = [begin(k, m, 4)] + [add(4 * i // len(values), v) for i, v in enumerate(sorted(values))]
    return calls + [join(1, 0), join(3, 2), join(1, 3)], 1


def one_by_one(source, k, m, values):
    """Each value is told to an account of its own, which is put together with the one of all before."""
    calls = [begin(k, m, 2)]
    for value in source.sample(values, len(values)):
        calls += [(4, 1), add(1, value), join(0, 1)]
    return calls, 0


def some_cases(seed, turns, count):
    source = random.Random(seed)
    for _ in range(turns):
        yield source, source.choice(FINENESSES), source.choice(MOSTS), some_values(source, count)


def known_of(k, m, values):
    known = Values(k, m)
    for value in values:
        known.tell(value, 1)
    return known


class SameHoweverItCameToBe(unittest.TestCase):
    def check(self, k, m, values, calls, number):
        alone = asked([begin(k, m, 1)] + [add(0, v) for v in values], questions_on(0, k, values))
        self.assertEqual(asked(calls, questions_on(number, k, values)), alone, (k, m, values, calls))

    def test_in_several_orders(self):
        for source, k, m, values in some_cases(11, 25, 20):
            for order in (sorted(values), sorted(values, reverse=True), source.sample(values, len(values))):
                self.check(k, m, values, [begin(k, m, 1)] + [add(0, v) for v in order], 0)

    def test_in_several_trees(self):
        for source, k, m, values in some_cases(12, 40, 20):
            self.check(k, m, values, *in_a_tree(source, k, m, values))
            self.check(k, m, values, *in_pairs(k, m, values))

    def test_in_a_long_row(self):
        for source, k, m, values in some_cases(13, 30, 15):
            self.check(k, m, values, *one_by_one(source, k, m, values))

    def test_several_times_at_once(self):
        for source, k, m, values in some_cases(14, 30, 10):
            values = [v for v in values for _ in range(source.randrange(1, 4))]
            counts = {v: values.count(v) for v in source.sample(values, len(values))}
            self.check(k, m, values, [begin(k, m, 1)] + [add(0, v, times) for v, times in counts.items()], 0)


class UpToIsSureOfAndMayBe(unittest.TestCase):
    def check(self, k, m, values):
        vs = around_all_ends(k, values)
        given = asked([begin(k, m, 1)] + [add(0, v) for v in values], [up_to(0, v) for v in vs])
        known = known_of(k, m, values)
        before = [0, 0]
        for v, (sure, maybe) in zip(vs, given, strict=True):
            at_most = len([value for value in values if value <= v])
            self.assertTrue(values.count(0) <= sure <= at_most <= maybe <= len(values), (k, m, values, v))
            # A greater v is never sure of fewer.
            self.assertTrue(before[0] <= sure and before[1] <= maybe)
            before = [sure, maybe]
            self.assertEqual([sure, maybe], known.up_to(v))
        self.assertEqual(before, [len(values)] * 2)

    def test_around_all_ends(self):
        for source, k, m, values in some_cases(21, 100, 20):
            self.check(k, m, values)

    def test_every_small_value(self):
        for k in range(3, 41):
            for m in (1, 5, 200):
                self.check(k, m, list(range(0, 28)))
                self.check(k, m, list(range(3, 28)))

    def test_at_the_least_and_the_greatest(self):
        for source, k, m, values in some_cases(22, 100, 12):
            given = ask(begin(k, m, 1), *[add(0, v) for v in values], up_to(0, max(values)), up_to(0, min(values)))
            self.assertEqual(given[-2], [len(values)] * 2)
            self.assertGreaterEqual(given[-1][1], 1)


class ValueOfPartLiesBetween(unittest.TestCase):
    def test_over_many_p_and_q(self):
        for source, k, m, values in some_cases(31, 150, 25):
            known = known_of(k, m, values)
            pairs = [(p, 6) for p in range(7)]
            for _ in range(25):
                q = source.randrange(1, 2 ** source.randrange(1, 65))
                pairs.append((source.randrange(q + 1), q))
            given = asked([begin(k, m, 1)] + [add(0, v) for v in values], [part(0, p, q) for p, q in pairs])
            for (p, q), (r, low, high, top, bottom) in zip(pairs, given, strict=True):
                self.assertTrue(r * q <= p * (len(values) - 1) < (r + 1) * q)
                value = sorted(values)[r]
                self.assertTrue(low <= value <= high)
                if not known.in_lowest_of_cut(value):
                    self.assertLessEqual(abs(Fraction(top, bottom) - value) * k, value)


class HighestBucketsAreKept(unittest.TestCase):
    def test_of_all_that_have_values(self):
        for source, k, m, values in some_cases(41, 200, 25):
            calls, number = in_a_tree(source, k, m, values)
            kept, told = ask(*calls, buckets(number), account(number))[-2:]
            full = sorted({bucket(k, value) for value in values if value > 0})
            self.assertEqual(kept[0], len(full[-m:]))
            self.assertEqual(kept[1::2], full[-m:])
            self.assertEqual(sum(kept[2::2]), len(values) - values.count(0))
            for i, count in list(zip(kept[1::2], kept[2::2], strict=True))[1:]:
                self.assertEqual(count, len([v for v in values if v > 0 and bucket(k, v) == i]))
            self.assertEqual(told, [len(values), values.count(0), sum(values), min(values), max(values),
                                    int(len(full) > m)])
