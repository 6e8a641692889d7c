"""Each call by itself: ordinary numbers, edges, and refusals, with answers worked out by hand.

With fineness 3 the buckets are 1, 2, 3 to 4, 5 to 8, 9 to 16, 17 to 32, 33 to 64 and so on.
"""

import unittest

from lines import TOP, add, ask, begin, clear, join, last, rank


class Begin(unittest.TestCase):
    def test_answers_0(self):
        self.assertEqual(ask(begin(10, 20, 1)), [[0]])

    def test_edges_are_taken(self):
        for call in (begin(3, 1, 1), begin(40, 200, 6), begin(3, 200, 6), begin(40, 1, 1)):
            self.assertEqual(ask(call), [[0]])

    def test_past_the_edges_is_refused(self):
        for call in (begin(2, 20, 1), begin(41, 20, 1), begin(10, 0, 1), begin(10, 201, 1), begin(10, 20, 0),
                     begin(10, 20, 7), begin(0, 0, 0), begin(TOP, 20, 1), begin(10, TOP, 1), begin(10, 20, TOP),
                     begin(TOP, TOP, TOP)):
            self.assertEqual(ask(call), [[-1]])

    def test_so_many_accounts_numbered_from_0(self):
        for count in range(1, 7):
            given = ask(begin(10, 20, count), *[add(account, 1) for account in range(count)], add(count, 1))
            self.assertEqual(given, [[0]] + [[1, 1]] * count + [[-2]])

    def test_coming_again_makes_all_new(self):
        given = ask(begin(3, 1, 2), add(0, 1), add(0, 9), add(1, 7), begin(4, 2, 3),
                    rank(0, 0), rank(1, 0), rank(2, 0), add(0, 1), add(0, 9), rank(0, 0), add(3, 1))
        self.assertEqual(given[4:], [[0], [-3], [-3], [-3], [1, 1], [2, 2], [0, 1, 1, 1, 1], [-2]])

    def test_coming_again_changes_the_fineness(self):
        calls = [add(0, 5), add(0, 8), rank(0, 0)]
        self.assertEqual(last(begin(3, 9, 1), *calls), [0, 5, 8, 80, 13])
        self.assertEqual(last(begin(40, 9, 1), *calls), [0, 5, 5, 5, 1])
        self.assertEqual(last(begin(40, 9, 1), begin(3, 9, 1), *calls), [0, 5, 8, 80, 13])

    def test_a_line_begins_as_behind_10_20_1(self):
        calls = [add(0, i ** 3) for i in range(1, 29)] + [rank(0, r) for r in range(0, 28)] + [add(1, 1)]
        given = ask(*calls)
        self.assertEqual(given, ask(begin(10, 20, 1), *calls)[1:])
        for k, m, count in ((9, 20, 1), (11, 20, 1), (10, 19, 1), (10, 21, 1), (10, 20, 2)):
            self.assertNotEqual(given, ask(begin(k, m, count), *calls)[1:])


class Add(unittest.TestCase):
    def test_counts_values_and_buckets(self):
        self.assertEqual(ask(begin(3, 9, 1), add(0, 5), add(0, 8), add(0, 9), add(0, 5)),
                         [[0], [1, 1], [2, 1], [3, 2], [4, 2]])

    def test_several_times_at_once(self):
        self.assertEqual(ask(begin(3, 9, 1), add(0, 5, 3), add(0, 9, 2), rank(0, 2), rank(0, 3), rank(0, 5)),
                         [[0], [3, 1], [5, 2], [2, 5, 8, 80, 13], [3, 9, 9, 9, 1], [-3]])

    def test_0_times_changes_nothing(self):
        given = ask(begin(3, 1, 1), add(0, 4, 0), rank(0, 0), add(0, 6), add(0, 1, 0), add(0, 0, 0),
                    add(0, 10 ** 9, 0), rank(0, 0), rank(0, 1))
        self.assertEqual(given, [[0], [0, 0], [-3], [1, 1], [1, 1], [1, 1], [1, 1], [0, 6, 6, 6, 1], [-3]])

    def test_a_million_times(self):
        given = ask(begin(3, 9, 1), add(0, 6, 10 ** 6), add(0, 0, 10 ** 6), rank(0, 10 ** 6 - 1), rank(0, 10 ** 6),
                    rank(0, 2 * 10 ** 6 - 1), rank(0, 2 * 10 ** 6))
        self.assertEqual(given[1:], [[10 ** 6, 1], [2 * 10 ** 6, 1], [10 ** 6 - 1, 0, 0, 0, 1],
                                     [10 ** 6, 5, 6, 60, 11], [2 * 10 ** 6 - 1, 5, 6, 60, 11], [-3]])

    def test_value_0_is_in_no_bucket(self):
        self.assertEqual(ask(begin(3, 1, 1), add(0, 0), add(0, 0, 4), add(0, 3), add(0, 0)),
                         [[0], [1, 0], [5, 0], [6, 1], [7, 1]])

    def test_greatest_value(self):
        for k in (3, 10, 40):
            given = ask(begin(k, 5, 1), add(0, 10 ** 9), rank(0, 0))
            self.assertEqual(given[1:], [[1, 1], [0, 10 ** 9, 10 ** 9, 10 ** 9, 1]])

    def test_lowest_bucket_is_given_up(self):
        given = ask(begin(3, 2, 1), add(0, 1), add(0, 3), add(0, 6), rank(0, 0), rank(0, 1), rank(0, 2))
        self.assertEqual(given[1:], [[1, 1], [2, 2], [3, 2], [0, 1, 4, 8, 5], [1, 1, 4, 8, 5], [2, 5, 6, 60, 11]])

    def test_a_bucket_between_takes_what_is_given_up(self):
        given = ask(begin(3, 2, 1), add(0, 1), add(0, 20), add(0, 6), rank(0, 0), rank(0, 1), rank(0, 2))
        self.assertEqual(given[3:], [[3, 2], [0, 1, 8, 16, 9], [1, 1, 8, 16, 9], [2, 17, 20, 680, 37]])

    def test_a_cut_account_counts_lower_ones_in_its_lowest(self):
        given = ask(begin(3, 2, 1), add(0, 1), add(0, 3), add(0, 6), add(0, 2, 5), rank(0, 6), rank(0, 7))
        self.assertEqual(given[4:], [[8, 2], [6, 1, 4, 8, 5], [7, 5, 6, 60, 11]])

    def test_as_many_as_may_be_kept_are_not_cut(self):
        given = ask(begin(3, 2, 1), add(0, 3), add(0, 4), add(0, 0), add(0, 6), rank(0, 1))
        self.assertEqual(given[4:], [[4, 2], [1, 3, 4, 24, 7]])

    def test_one_bucket_alone(self):
        given = ask(begin(3, 1, 1), add(0, 6), rank(0, 0), add(0, 2), rank(0, 0), rank(0, 1), add(0, 70), rank(0, 2))
        self.assertEqual(given[1:], [[1, 1], [0, 6, 6, 6, 1], [2, 1], [0, 2, 6, 3, 1], [1, 2, 6, 3, 1], [3, 1],
                                     [2, 2, 70, 35, 9]])

    def test_no_such_account(self):
        for account in (1, 6, TOP):
            self.assertEqual(ask(add(account, 1)), [[-2]])

    def test_wrong_value_or_times(self):
        for call in (add(0, 10 ** 9 + 1), add(0, TOP), add(0, 1, 10 ** 6 + 1), add(0, 1, TOP), add(0, TOP, TOP),
                     add(0, 10 ** 9 + 1, 0), add(0, 0, 10 ** 6 + 1)):
            self.assertEqual(ask(call), [[-1]])

    def test_no_such_account_is_told_first(self):
        for call in (add(1, 10 ** 9 + 1), add(1, 1, 10 ** 6 + 1), add(TOP, TOP, TOP)):
            self.assertEqual(ask(call), [[-2]])


class Join(unittest.TestCase):
    def test_first_is_both_and_other_stays(self):
        given = ask(begin(3, 9, 2), add(0, 5), add(1, 8, 2), add(1, 0), join(0, 1), rank(0, 0), rank(0, 1), rank(0, 4),
                    rank(1, 0), rank(1, 2), rank(1, 3))
        self.assertEqual(given[4:], [[4, 1], [0, 0, 0, 0, 1], [1, 5, 8, 80, 13], [-3],
                                     [0, 0, 0, 0, 1], [2, 5, 8, 80, 13], [-3]])

    def test_later_adds_go_into_one_alone(self):
        for changed, kept in ((0, 1), (1, 0)):
            given = ask(begin(3, 9, 2), add(1, 6), join(0, 1), add(changed, 6, 4), add(changed, 40),
                        add(kept, 6, 0), rank(kept, 0))
            self.assertEqual(given[2:], [[1, 1], [5, 1], [6, 2], [1, 1], [0, 6, 6, 6, 1]])

    def test_twice_counts_twice(self):
        given = ask(begin(3, 9, 2), add(0, 5), add(1, 6), join(0, 1), join(0, 1), join(1, 0))
        self.assertEqual(given[3:], [[2, 1], [3, 1], [4, 1]])

    def test_with_one_that_was_told_nothing(self):
        for calls in ([add(0, 7), join(0, 1)], [add(1, 7), join(0, 1)]):
            self.assertEqual(ask(begin(3, 9, 2), *calls, rank(0, 0))[2:], [[1, 1], [0, 7, 7, 7, 1]])
        self.assertEqual(ask(begin(3, 9, 2), join(0, 1), rank(0, 0)), [[0], [0, 0], [-3]])

    def test_with_one_that_has_0s_alone(self):
        for calls in ([add(0, 7), add(1, 0, 2), join(0, 1)], [add(1, 7), add(0, 0, 2), join(0, 1)]):
            self.assertEqual(ask(begin(3, 9, 2), *calls, rank(0, 1), rank(0, 2))[3:],
                             [[3, 1], [1, 0, 0, 0, 1], [2, 5, 7, 35, 6]])

    def test_becomes_cut(self):
        given = ask(begin(3, 2, 2), add(0, 2), add(0, 20), add(1, 3), add(1, 6), join(0, 1), rank(0, 0), rank(0, 2),
                    rank(0, 3), rank(1, 0))
        self.assertEqual(given[5:], [[4, 2], [0, 2, 8, 16, 5], [2, 2, 8, 16, 5], [3, 17, 20, 680, 37],
                                     [0, 3, 4, 24, 7]])

    def test_cut_with_uncut_both_ways(self):
        told = [begin(3, 2, 2), add(0, 1), add(0, 3), add(0, 6), add(1, 2), add(1, 20)]
        for account, other in ((0, 1), (1, 0)):
            given = ask(*told, join(account, other), *[rank(account, r) for r in range(6)])
            self.assertEqual(given[6:], [[5, 2], [0, 1, 8, 16, 9], [1, 1, 8, 16, 9], [2, 1, 8, 16, 9], [3, 1, 8, 16, 9],
                                         [4, 17, 20, 680, 37], [-3]])

    def test_lower_ones_of_uncut_are_counted_in_lowest_of_cut(self):
        told = [begin(3, 2, 2), add(0, 3), add(0, 6), add(0, 20), add(1, 1), add(1, 2)]
        for account, other in ((0, 1), (1, 0)):
            given = ask(*told, join(account, other), rank(account, 3), rank(account, 4))
            self.assertEqual(given[6:], [[5, 2], [3, 1, 8, 16, 9], [4, 17, 20, 680, 37]])

    def test_cut_stays_cut_in_one_that_was_told_nothing(self):
        given = ask(begin(3, 1, 2), add(0, 2), add(0, 6), join(1, 0), rank(1, 0), add(1, 4), rank(1, 2))
        self.assertEqual(given[3:], [[2, 1], [0, 2, 6, 3, 1], [3, 1], [2, 2, 6, 3, 1]])

    def test_cut_with_cut(self):
        told = [begin(3, 2, 2), add(0, 1), add(0, 3), add(0, 6), add(1, 2), add(1, 9), add(1, 20)]
        for account, other in ((0, 1), (1, 0)):
            given = ask(*told, join(account, other), rank(account, 0), rank(account, 4), rank(account, 5))
            self.assertEqual(given[7:], [[6, 2], [0, 1, 16, 32, 17], [4, 1, 16, 32, 17], [5, 17, 20, 680, 37]])

    def test_no_such_account(self):
        for call in (join(0, 2), join(2, 0), join(2, 3), join(0, TOP), join(TOP, 0)):
            self.assertEqual(last(begin(10, 20, 2), call), [-2])

    def test_both_are_one(self):
        self.assertEqual(last(join(0, 0)), [-1])
        self.assertEqual(last(begin(10, 20, 6), join(5, 5)), [-1])

    def test_no_such_account_is_told_first(self):
        for account in (1, 6, TOP):
            self.assertEqual(last(join(account, account)), [-2])


class Clear(unittest.TestCase):
    def test_it_was_told_nothing(self):
        given = ask(add(0, 5), add(0, 0), clear(0), rank(0, 0), add(0, 3, 0), add(0, 7), rank(0, 0))
        self.assertEqual(given[2:], [[0], [-3], [0, 0], [1, 1], [0, 7, 7, 7, 1]])

    def test_one_that_was_told_nothing(self):
        self.assertEqual(ask(clear(0), clear(0), rank(0, 0)), [[0], [0], [-3]])

    def test_a_cut_one_is_cut_no_more(self):
        given = ask(begin(3, 2, 1), add(0, 1), add(0, 3), add(0, 6), clear(0), add(0, 3), add(0, 4), add(0, 1),
                    rank(0, 0), rank(0, 1))
        self.assertEqual(given[4:], [[0], [1, 1], [2, 1], [3, 2], [0, 1, 1, 1, 1], [1, 3, 4, 24, 7]])

    def test_fineness_and_most_stay(self):
        given = ask(begin(3, 2, 1), clear(0), add(0, 5), add(0, 8), rank(0, 0), add(0, 9), add(0, 17))
        self.assertEqual(given[2:], [[1, 1], [2, 1], [0, 5, 8, 80, 13], [3, 2], [4, 2]])

    def test_the_others_stay(self):
        given = ask(begin(3, 9, 3), add(0, 5), join(1, 0), join(2, 1), clear(1), rank(0, 0), rank(1, 0), rank(2, 0))
        self.assertEqual(given[4:], [[0], [0, 5, 5, 5, 1], [-3], [0, 5, 5, 5, 1]])

    def test_no_such_account(self):
        for account in (1, 6, TOP):
            self.assertEqual(ask(clear(account)), [[-2]])


class Rank(unittest.TestCase):
    def test_the_0s_come_first(self):
        given = ask(begin(3, 9, 1), add(0, 3), add(0, 0, 2), *[rank(0, r) for r in range(4)])
        self.assertEqual(given[3:], [[0, 0, 0, 0, 1], [1, 0, 0, 0, 1], [2, 3, 3, 3, 1], [-3]])

    def test_buckets_in_order(self):
        given = ask(begin(3, 9, 1), add(0, 12), add(0, 1), add(0, 40), add(0, 3, 2), add(0, 2),
                    *[rank(0, r) for r in range(7)])
        self.assertEqual(given[6:], [[0, 1, 1, 1, 1], [1, 2, 2, 2, 1], [2, 3, 4, 24, 7], [3, 3, 4, 24, 7],
                                     [4, 9, 16, 288, 25], [5, 33, 40, 2640, 73], [-3]])

    def test_least_and_greatest_narrow_it(self):
        given = ask(begin(3, 9, 1), add(0, 6), add(0, 7), rank(0, 0), rank(0, 1))
        self.assertEqual(given[3:], [[0, 6, 7, 84, 13], [1, 6, 7, 84, 13]])

    def test_fraction_in_lowest_terms(self):
        self.assertEqual(last(begin(3, 9, 1), add(0, 3), add(0, 6), add(0, 1), rank(0, 2)), [2, 5, 6, 60, 11])
        self.assertEqual(last(begin(3, 9, 1), add(0, 10), add(0, 15), rank(0, 0)), [0, 10, 15, 12, 1])
        self.assertEqual(last(begin(3, 9, 1), add(0, 9), add(0, 15), rank(0, 0)), [0, 9, 15, 45, 4])

    def test_one_is_the_beginning_of_the_lowest_of_a_cut_one(self):
        self.assertEqual(last(begin(3, 1, 1), add(0, 1), add(0, 60), rank(0, 1)), [1, 1, 60, 120, 61])

    def test_0_as_the_least_of_a_cut_one(self):
        given = ask(begin(3, 1, 1), add(0, 0), add(0, 3), add(0, 60), rank(0, 0), rank(0, 1))
        self.assertEqual(given[4:], [[0, 0, 0, 0, 1], [1, 1, 60, 120, 61]])

    def test_fineness_40(self):
        given = ask(begin(40, 200, 1), add(0, 1), add(0, 2), add(0, 1000), add(0, 1030), add(0, 10 ** 9),
                    *[rank(0, r) for r in range(5)])
        # Bucket 138 ends with 993, 139 with 1044; bucket 414 ends with 981226735, 415 above 10^9.
        self.assertEqual(given[3:], [[3, 3], [4, 3], [5, 4], [0, 1, 1, 1, 1], [1, 2, 2, 2, 1],
                                     [2, 994, 1044, 1037736, 1019], [3, 994, 1044, 1037736, 1019],
                                     [4, 981226736, 10 ** 9, 122653342000000000, 123826671]])

    def test_a_0_is_the_least_too(self):
        self.assertEqual(last(begin(3, 9, 1), add(0, 7), rank(0, 0)), [0, 7, 7, 7, 1])
        self.assertEqual(last(begin(3, 9, 1), add(0, 7), add(0, 0), rank(0, 1)), [1, 5, 7, 35, 6])

    def test_just_past_the_last(self):
        self.assertEqual(ask(rank(0, 0), add(0, 4, 2), rank(0, 1), rank(0, 2), rank(0, TOP)),
                         [[-3], [2, 1], [1, 4, 4, 4, 1], [-3], [-3]])

    def test_no_such_account(self):
        for account in (1, 6, TOP):
            self.assertEqual(last(add(0, 4), rank(account, 0)), [-2])

    def test_no_such_account_is_told_first(self):
        for call in (rank(1, 0), rank(1, 5), rank(TOP, TOP)):
            self.assertEqual(ask(call), [[-2]])
