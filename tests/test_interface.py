"""What is handed in and given back, whatever the calls are."""

import unittest

from lines import TOP, account, add, ask, begin, buckets, clear, edges, flat, join, part, rank, up_to
from widebuckets.house import answers

LINE = flat([begin(3, 2, 2), add(0, 1, 3), add(0, 6), add(0, 20), add(1, 0), join(1, 0), rank(1, 0), rank(1, 4),
             clear(0), rank(0, 0), add(TOP, TOP, TOP), begin(10, 20, 7), add(1, 10 ** 9, 10 ** 6),
             part(1, 1, 2), part(1, 2, 1), part(0, 0, 1), up_to(1, 6), up_to(2, 6), account(1), account(TOP),
             buckets(1), buckets(2), edges(4), edges(TOP)])


class Watched(list):
    """A list that may be read, but not changed, not for a while either."""

    def refuse(self, *rest, **more):
        raise AssertionError("what is handed in was changed")

    append = clear = extend = insert = pop = remove = reverse = sort = refuse
    __setitem__ = __delitem__ = __iadd__ = __imul__ = refuse


class Interface(unittest.TestCase):
    def test_counts_stand_ahead_of_answers(self):
        self.assertEqual(answers(flat([add(0, 0), rank(0, 0), rank(0, 1), clear(0), join(0, 0), begin(3, 1, 1)])),
                         [2, 1, 0, 5, 0, 0, 0, 0, 1, 1, -3, 1, 0, 1, -1, 1, 0])

    def test_how_many_numbers_each_call_answers(self):
        calls = [begin(3, 2, 2), add(0, 6), add(0, 3), join(1, 0), clear(0), rank(1, 0), part(1, 1, 1), up_to(1, 5),
                 account(1), buckets(1), edges(7)]
        self.assertEqual([len(answer) for answer in ask(*calls)], [1, 2, 2, 2, 1, 5, 5, 2, 6, 5, 2])
        self.assertEqual(answers(flat(calls)),
                         [1, 0, 2, 1, 1, 2, 2, 2, 2, 2, 2, 1, 0, 5, 0, 3, 4, 24, 7, 5, 1, 5, 6, 60, 11, 2, 1, 2,
                          6, 2, 0, 9, 3, 6, 0, 5, 2, 2, 1, 3, 1, 2, 65, 128])

    def test_a_list_of_whole_numbers_is_given_back(self):
        given = answers(list(LINE))
        self.assertIs(type(given), list)
        for number in given:
            self.assertIs(type(number), int)

    def test_what_is_handed_in_is_as_it_was(self):
        handed = list(LINE)
        given = answers(handed)
        self.assertEqual(handed, LINE)
        self.assertIsNot(given, handed)

    def test_what_is_handed_in_is_never_changed_for_a_while(self):
        self.assertEqual(answers(Watched(LINE)), answers(list(LINE)))

    def test_a_second_time_gives_the_same(self):
        first = answers(list(LINE))
        self.assertEqual(answers(list(LINE)), first)
        other = answers(flat([add(0, 5), rank(0, 0), rank(0, 1), add(1, 1)]))
        self.assertEqual(other, [2, 1, 1, 5, 0, 5, 5, 5, 1, 1, -3, 1, -2])
        self.assertEqual(answers(list(LINE)), first)

    def test_what_was_given_back_is_one_s_own(self):
        first = answers(list(LINE))
        kept = list(first)
        first.append(7)
        self.assertEqual(answers(list(LINE)), kept)

    def test_sixty_calls(self):
        self.assertEqual(answers([2, 0, 10 ** 9, 10 ** 6] * 60)[-3:], [2, 60 * 10 ** 6, 1])
        self.assertEqual(answers([1, 40, 200, 6] * 60), [1, 0] * 60)
        self.assertEqual(answers([6, 0, 0, 1] * 60), [1, -3] * 60)
        self.assertEqual(answers([2, 0, 7, 1] + [6, 0, TOP, TOP] * 59), [2, 1, 1] + [5, 0, 7, 7, 7, 1] * 59)
        self.assertEqual(answers([10, 0] * 60), [2, 1, 1] * 60)

    def test_each_call_alone(self):
        for call, given in ((begin(3, 1, 1), [1, 0]), (add(0, 1), [2, 1, 1]), (join(0, 0), [1, -1]),
                            (clear(0), [1, 0]), (rank(0, 0), [1, -3]), (part(0, 1, 1), [1, -3]),
                            (up_to(0, 1), [2, 0, 0]), (account(0), [6, 0, 0, 0, 0, 0, 0]), (buckets(0), [1, 0]),
                            (edges(0), [2, 1, 1])):
            self.assertEqual(answers(list(call)), given)
