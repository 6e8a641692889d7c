"""The calls that ask and change nothing: part, up to, account, buckets, edges, with answers worked out by hand.

With fineness 3 bucket i ends with 2 to the power i: 1, 2, 3 to 4, 5 to 8, 9 to 16, 17 to 32, 33 to 64 and so on.
"""

import unittest

from lines import TOP, account, add, ask, begin, buckets, clear, edges, join, last, part, rank, up_to

# Bucket 0 has one value, bucket 2 two, bucket 3 one, and there are two 0s.
SPREAD = [begin(3, 9, 1), add(0, 6), add(0, 0, 2), add(0, 3, 2), add(0, 1)]

# Of the buckets 0, 2, 3 and 5 the two highest are kept: 3 counts what was in 0 and 2 too.
CUT = [begin(3, 2, 1), add(0, 20), add(0, 3, 2), add(0, 6, 3), add(0, 1)]


def asked(told, questions):
    return ask(*told, *questions)[len(told):]


class Part(unittest.TestCase):
    def test_none_is_the_first_and_all_the_last(self):
        for q in (1, 2, 100, TOP):
            self.assertEqual(asked(CUT, [part(0, 0, q), part(0, q, q)]), [[0, 1, 8, 16, 9], [6, 17, 20, 680, 37]])

    def test_rounded_down(self):
        # Six values: the rank is five times the part.
        ranks = [[0, 0, 0, 0, 1], [1, 0, 0, 0, 1], [2, 1, 1, 1, 1], [3, 3, 4, 24, 7], [4, 3, 4, 24, 7],
                 [5, 5, 6, 60, 11]]
        questions = [part(0, p, 10) for p in range(11)]
        self.assertEqual(asked(SPREAD, questions), [ranks[p // 2] for p in range(11)])
        self.assertEqual(asked(SPREAD, [part(0, 1, 5), part(0, 19, 100), part(0, 20, 100), part(0, 99, 100)]),
                         [ranks[1], ranks[0], ranks[1], ranks[4]])

    def test_told_as_rank_does(self):
        for told in (SPREAD, CUT):
            count = last(*told, account(0))[0]
            by_rank = asked(told, [rank(0, r) for r in range(count)])
            for q in range(1, 30):
                self.assertEqual(asked(told, [part(0, p, q) for p in range(q + 1)]),
                                 [by_rank[p * (count - 1) // q] for p in range(q + 1)])

    def test_great_p_and_q(self):
        # Just below one half, one half, and just above: of three values the middle one is one half.
        told = [begin(3, 9, 1), add(0, 1), add(0, 2), add(0, 3)]
        half = 2 ** 63
        self.assertEqual(asked(told, [part(0, half - 1, TOP), part(0, half, TOP), part(0, half - 1, TOP - 1),
                                      part(0, TOP - 1, TOP), part(0, TOP, TOP), part(0, 0, TOP), part(0, 1, TOP)]),
                         [[0, 1, 1, 1, 1], [1, 2, 2, 2, 1], [1, 2, 2, 2, 1], [1, 2, 2, 2, 1], [2, 3, 3, 3, 1],
                          [0, 1, 1, 1, 1], [0, 1, 1, 1, 1]])

    def test_many_values_and_great_p(self):
        told = [begin(3, 9, 1), add(0, 0, 10 ** 6), add(0, 5, 10 ** 6)]
        given = asked(told, [part(0, TOP // 2, TOP), part(0, TOP // 2 + 1, TOP), part(0, TOP, TOP)])
        self.assertEqual(given, [[999999, 0, 0, 0, 1], [999999, 0, 0, 0, 1], [1999999, 5, 5, 5, 1]])

    def test_one_value(self):
        for p, q in ((0, 1), (1, 1), (1, 2), (TOP - 1, TOP), (TOP, TOP)):
            self.assertEqual(last(add(0, 9), part(0, p, q)), [0, 9, 9, 9, 1])

    def test_0s_alone(self):
        self.assertEqual(ask(add(0, 0, 5), part(0, 0, 1), part(0, 3, 5), part(0, 1, 1))[1:],
                         [[0, 0, 0, 0, 1], [2, 0, 0, 0, 1], [4, 0, 0, 0, 1]])

    def test_no_such_account(self):
        for number in (1, 6, TOP):
            self.assertEqual(last(add(0, 4), part(number, 1, 2)), [-2])

    def test_q_is_0_or_p_above_q(self):
        for p, q in ((0, 0), (1, 0), (TOP, 0), (2, 1), (TOP, 1), (TOP, TOP - 1)):
            self.assertEqual(last(add(0, 4), part(0, p, q)), [-1])

    def test_no_values(self):
        for told in ([], [add(0, 4, 0)], [add(0, 4), clear(0)], [add(0, 4), begin(3, 3, 3)]):
            for p, q in ((0, 1), (1, 1), (TOP, TOP)):
                self.assertEqual(last(*told, part(0, p, q)), [-3])

    def test_of_several_the_one_told_first(self):
        for p, q in ((0, 0), (2, 1), (TOP, 0), (1, 2)):
            self.assertEqual(last(part(1, p, q)), [-2])
        for p, q in ((0, 0), (2, 1), (TOP, 0)):
            self.assertEqual(last(part(0, p, q)), [-1])


class UpTo(unittest.TestCase):
    def test_around_each_end(self):
        # The ends are 0 and 0, 1 and 1, 3 and 4, 5 and 6: the greatest value narrows the last.
        given = asked(SPREAD, [up_to(0, v) for v in range(9)])
        self.assertEqual(given, [[2, 2], [3, 3], [3, 3], [3, 5], [5, 5], [5, 6], [6, 6], [6, 6], [6, 6]])

    def test_least_value_narrows_the_lowest(self):
        told = [begin(3, 9, 1), add(0, 11, 2), add(0, 13), add(0, 20)]
        given = asked(told, [up_to(0, v) for v in (0, 8, 9, 10, 11, 12, 13, 15, 16, 17, 19, 20, 21)])
        self.assertEqual(given, [[0, 0], [0, 0], [0, 0], [0, 0], [0, 3], [0, 3], [0, 3], [0, 3], [3, 3], [3, 4],
                                 [3, 4], [4, 4], [4, 4]])

    def test_0_as_the_least_narrows_nothing(self):
        told = [begin(3, 9, 1), add(0, 11), add(0, 0)]
        self.assertEqual(asked(told, [up_to(0, v) for v in (0, 8, 9, 10, 11)]),
                         [[1, 1], [1, 1], [1, 2], [1, 2], [2, 2]])

    def test_one_bucket_with_the_least_and_the_greatest(self):
        told = [begin(3, 9, 1), add(0, 10), add(0, 12), add(0, 14)]
        self.assertEqual(asked(told, [up_to(0, v) for v in (9, 10, 12, 13, 14, 15)]),
                         [[0, 0], [0, 3], [0, 3], [0, 3], [3, 3], [3, 3]])

    def test_a_cut_one_may_have_values_from_1_on_in_its_lowest(self):
        given = asked(CUT, [up_to(0, v) for v in (0, 1, 2, 4, 5, 7, 8, 9, 16, 17, 19, 20, TOP)])
        self.assertEqual(given, [[0, 0], [0, 6], [0, 6], [0, 6], [0, 6], [0, 6], [6, 6], [6, 6], [6, 6], [6, 7],
                                 [6, 7], [7, 7], [7, 7]])

    def test_the_least_narrows_the_lowest_of_a_cut_one(self):
        told = [begin(3, 1, 1), add(0, 3), add(0, 6)]
        self.assertEqual(asked(told, [up_to(0, v) for v in (0, 1, 2, 3, 4, 5, 6)]),
                         [[0, 0], [0, 0], [0, 0], [0, 2], [0, 2], [0, 2], [2, 2]])

    def test_0s_of_a_cut_one_are_always_sure(self):
        told = [begin(3, 1, 1), add(0, 3), add(0, 0, 4), add(0, 6)]
        self.assertEqual(asked(told, [up_to(0, v) for v in (0, 1, 5, 6)]), [[4, 4], [4, 6], [4, 6], [6, 6]])

    def test_just_cut(self):
        # The second bucket is one too many for m of 1, the values of one bucket are not.
        told = [begin(3, 1, 1), add(0, 5), add(0, 7)]
        self.assertEqual(asked(told, [up_to(0, 4), up_to(0, 5), add(0, 4), up_to(0, 3), up_to(0, 4), up_to(0, 7)]),
                         [[0, 0], [0, 2], [3, 1], [0, 0], [0, 3], [3, 3]])

    def test_told_nothing(self):
        for v in (0, 1, TOP):
            self.assertEqual(last(up_to(0, v)), [0, 0])
            self.assertEqual(last(add(0, 7), clear(0), up_to(0, v)), [0, 0])

    def test_0s_alone(self):
        for v in (0, 1, TOP):
            self.assertEqual(last(add(0, 0, 3), up_to(0, v)), [3, 3])

    def test_from_0_to_the_greatest_number(self):
        for k in (3, 10, 40):
            given = ask(begin(k, 9, 1), add(0, 10 ** 9, 2), up_to(0, 0), up_to(0, 10 ** 9 - 1), up_to(0, 10 ** 9),
                        up_to(0, 10 ** 9 + 1), up_to(0, TOP))
            self.assertEqual(given[2:], [[0, 0], [0, 0], [2, 2], [2, 2], [2, 2]])

    def test_no_such_account(self):
        for number in (1, 6, TOP):
            for v in (0, 5, TOP):
                self.assertEqual(last(add(0, 4), up_to(number, v)), [-2])


class Account(unittest.TestCase):
    def test_all_six(self):
        self.assertEqual(last(*SPREAD, account(0)), [6, 2, 13, 0, 6, 0])
        self.assertEqual(last(begin(3, 9, 1), add(0, 6), add(0, 3, 4), account(0)), [5, 0, 18, 3, 6, 0])
        self.assertEqual(last(*CUT, account(0)), [7, 0, 45, 1, 20, 1])

    def test_told_nothing(self):
        self.assertEqual(last(account(0)), [0, 0, 0, 0, 0, 0])
        self.assertEqual(last(add(0, 5, 0), account(0)), [0, 0, 0, 0, 0, 0])
        self.assertEqual(last(*CUT, clear(0), account(0)), [0, 0, 0, 0, 0, 0])
        self.assertEqual(last(begin(3, 3, 2), join(0, 1), account(0)), [0, 0, 0, 0, 0, 0])

    def test_0s_alone(self):
        self.assertEqual(last(add(0, 0, 7), account(0)), [7, 7, 0, 0, 0, 0])

    def test_0_and_0_at_first_are_no_values(self):
        for calls in ([add(0, 7)], [add(1, 7), join(0, 1)], [add(0, 7), join(0, 1)], [add(0, 1, 0), add(0, 7)]):
            self.assertEqual(last(begin(3, 3, 2), *calls, account(0)), [1, 0, 7, 7, 7, 0])

    def test_just_cut(self):
        told = [begin(3, 2, 1), add(0, 3), add(0, 5), add(0, 4), add(0, 0), add(0, 8)]
        self.assertEqual(asked(told, [account(0), add(0, 9), account(0), add(0, 20, 0), account(0)]),
                         [[5, 1, 20, 0, 8, 0], [6, 2], [6, 1, 29, 0, 9, 1], [6, 2], [6, 1, 29, 0, 9, 1]])
        self.assertEqual(last(*told, add(0, 1), account(0)), [6, 1, 21, 0, 8, 1])

    def test_cut_by_putting_together(self):
        told = [begin(3, 2, 3), add(0, 1), add(0, 2), add(1, 2), add(1, 3), add(2, 1, 2)]
        self.assertEqual(asked(told, [join(0, 2), account(0), join(0, 1), account(0), account(1), join(2, 0),
                                      account(2)]),
                         [[4, 2], [4, 0, 5, 1, 2, 0], [6, 2], [6, 0, 10, 1, 3, 1], [2, 0, 5, 2, 3, 0],
                          [8, 2], [8, 0, 12, 1, 3, 1]])

    def test_great_sums(self):
        self.assertEqual(last(*[add(0, 10 ** 9, 10 ** 6)] * 59, account(0)),
                         [59 * 10 ** 6, 0, 59 * 10 ** 15, 10 ** 9, 10 ** 9, 0])

    def test_sums_past_64_bits(self):
        # Each two joins make the counts two further ones of 1, 1, 2, 3, 5, 8 and so on.
        given = last(begin(3, 3, 2), add(0, 10 ** 9, 10 ** 6), *[join(1, 0), join(0, 1)] * 28, account(0))
        one, other = 1, 0
        for _ in range(28):
            other += one
            one += other
        self.assertGreater(one * 10 ** 15, TOP)
        self.assertEqual(given, [one * 10 ** 6, 0, one * 10 ** 15, 10 ** 9, 10 ** 9, 0])

    def test_no_such_account(self):
        for number in (1, 6, TOP):
            self.assertEqual(last(add(0, 4), account(number)), [-2])


class Buckets(unittest.TestCase):
    def test_by_their_numbers(self):
        self.assertEqual(last(*SPREAD, buckets(0)), [3, 0, 1, 2, 2, 3, 1])
        self.assertEqual(last(begin(3, 9, 1), *[add(0, 2 ** i, i + 1) for i in (5, 2, 7, 0, 4)], buckets(0)),
                         [5, 0, 1, 2, 3, 4, 5, 5, 6, 7, 8])

    def test_only_those_that_have_values(self):
        self.assertEqual(last(begin(40, 9, 1), add(0, 1), add(0, 2), add(0, 3, 0), buckets(0)), [2, 0, 1, 14, 1])

    def test_a_cut_one(self):
        self.assertEqual(last(*CUT, buckets(0)), [2, 3, 6, 5, 1])

    def test_just_cut(self):
        told = [begin(3, 3, 1), add(0, 1), add(0, 4, 2), add(0, 30, 3)]
        self.assertEqual(asked(told, [buckets(0), add(0, 10), buckets(0), add(0, 1), buckets(0)]),
                         [[3, 0, 1, 2, 2, 5, 3], [7, 3], [3, 2, 3, 4, 1, 5, 3], [8, 3], [3, 2, 4, 4, 1, 5, 3]])
        self.assertEqual(last(*told, add(0, 2), buckets(0)), [3, 1, 2, 2, 2, 5, 3])

    def test_put_together(self):
        told = [begin(3, 3, 2), add(0, 30), add(0, 4), add(1, 3, 2), add(1, 9)]
        self.assertEqual(asked(told, [join(0, 1), buckets(0), buckets(1), add(1, 2), join(0, 1), buckets(0)]),
                         [[5, 3], [3, 2, 3, 4, 1, 5, 1], [2, 2, 2, 4, 1], [4, 3], [9, 3], [3, 2, 6, 4, 2, 5, 1]])

    def test_cut_ones_put_together(self):
        # The lowest kept of the two are 3 and 4; what's below 4 is counted in 4, then 4 is given up.
        told = [begin(3, 2, 2), add(0, 1), add(0, 6), add(0, 40), add(1, 3), add(1, 9), add(1, 20)]
        for one, other in ((0, 1), (1, 0)):
            self.assertEqual(asked(told, [join(one, other), buckets(one), account(one)]),
                             [[6, 2], [2, 5, 5, 6, 1], [6, 0, 79, 1, 40, 1]])

    def test_told_nothing_or_0s_alone(self):
        self.assertEqual(ask(buckets(0), add(0, 0, 4), buckets(0), add(0, 3), clear(0), buckets(0)),
                         [[0], [4, 0], [0], [5, 1], [0], [0]])

    def test_as_many_as_a_line_can_tell(self):
        values = [41 ** i // 39 ** i for i in range(200, 258)]
        counted = [number for i in range(200, 258) for number in (i, 1)]
        self.assertEqual(last(begin(40, 200, 1), *[add(0, value) for value in reversed(values)], buckets(0)),
                         [58] + counted)
        self.assertEqual(last(begin(40, 57, 1), *[add(0, value) for value in values], buckets(0)),
                         [57, 201, 2] + counted[4:])

    def test_no_such_account(self):
        for number in (1, 6, TOP):
            self.assertEqual(last(add(0, 4), buckets(number)), [-2])


class Edges(unittest.TestCase):
    def test_fineness_3(self):
        self.assertEqual(ask(begin(3, 9, 1), *[edges(i) for i in range(6)])[1:],
                         [[1, 1], [2, 2], [3, 4], [5, 8], [9, 16], [17, 32]])

    def test_a_line_begins_with_fineness_10(self):
        self.assertEqual(ask(*[edges(i) for i in range(10)]),
                         [[1, 1], [2, 1], [2, 1], [2, 1], [2, 2], [3, 2], [3, 3], [4, 4], [5, 4], [5, 6]])

    def test_bucket_0_is_just_1(self):
        for k in range(3, 41):
            self.assertEqual(last(begin(k, 9, 1), edges(0)), [1, 1])

    def test_no_whole_number_in_it(self):
        given = ask(begin(40, 9, 1), *[edges(i) for i in range(1, 16)])[1:]
        self.assertEqual(given, [[2, 1]] * 13 + [[2, 2], [3, 2]])

    def test_last_that_ends_at_most_at_10_18(self):
        self.assertEqual(ask(begin(3, 9, 1), edges(59), edges(60), edges(61))[1:],
                         [[2 ** 58 + 1, 2 ** 59], [-1], [-1]])
        for k in (3, 4, 10, 39, 40):
            i = 0
            while (k + 1) ** (i + 1) // (k - 1) ** (i + 1) <= 10 ** 18:
                i += 1
            begins = (k + 1) ** (i - 1) // (k - 1) ** (i - 1) + 1
            ends = (k + 1) ** i // (k - 1) ** i
            self.assertEqual(ask(begin(k, 9, 1), edges(i), edges(i + 1))[1:], [[begins, ends], [-1]])

    def test_fineness_40_at_10_18(self):
        self.assertEqual(ask(begin(40, 9, 1), edges(828), edges(829))[1:],
                         [[915839765001202494, 962805906796135955], [-1]])

    def test_1000_and_above(self):
        for k in (3, 10, 40):
            for i in (1000, 1001, 2 ** 32, TOP):
                self.assertEqual(last(begin(k, 9, 1), edges(i)), [-1])

    def test_follows_the_fineness_of_the_last_begin(self):
        self.assertEqual(ask(begin(3, 9, 1), edges(3), begin(4, 9, 1), edges(3), begin(41, 9, 1), edges(3)),
                         [[0], [5, 8], [0], [3, 4], [-1], [3, 4]])

    def test_whatever_was_told(self):
        self.assertEqual(last(*CUT, edges(3)), [5, 8])
        self.assertEqual(last(*SPREAD, edges(3)), [5, 8])
