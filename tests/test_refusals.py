"""Behind a refusal all is as it was."""

import unittest

from lines import TOP, account, add, ask, begin, buckets, clear, edges, join, part, rank, up_to

TOLD = [begin(3, 2, 3), add(0, 2), add(0, 3), add(0, 6), add(0, 0), add(1, 3), add(1, 4, 2)]

# What can be seen of the three accounts, then what comes of them.
LOOKED_AT = ([account(0), account(1), account(2), buckets(0), buckets(1), buckets(2), edges(5)]
             + [rank(0, 1), rank(0, 3), rank(1, 0), rank(2, 0), part(1, 1, 2), up_to(0, 4), up_to(1, 3)]
             + [add(0, 1), rank(0, 1), add(1, 1), rank(1, 3), add(2, 1), rank(2, 0), add(3, 0)]
             + [join(2, 0), rank(2, 2), join(2, 1), rank(2, 3), account(2), buckets(2)])

REFUSED = [
    (begin(2, 20, 1), -1), (begin(41, 20, 1), -1), (begin(10, 0, 1), -1), (begin(10, 201, 1), -1),
    (begin(10, 20, 0), -1), (begin(10, 20, 7), -1), (begin(TOP, TOP, TOP), -1), (begin(0, 0, 0), -1),
    (add(3, 1), -2), (add(TOP, 1), -2), (add(0, 10 ** 9 + 1), -1), (add(1, 1, 10 ** 6 + 1), -1),
    (add(2, TOP, TOP), -1), (add(3, TOP, 1), -2), (add(3, 1, TOP), -2), (add(TOP, TOP, TOP), -2),
    (add(0, 10 ** 9 + 1, 0), -1), (add(3, 1, 0), -2),
    (join(0, 3), -2), (join(3, 0), -2), (join(TOP, TOP), -2), (join(3, 3), -2), (join(0, 0), -1), (join(2, 2), -1),
    (clear(3), -2), (clear(TOP), -2),
    (rank(3, 0), -2), (rank(TOP, TOP), -2), (rank(0, 4), -3), (rank(1, 3), -3), (rank(2, 0), -3), (rank(0, TOP), -3),
    (part(3, 0, 1), -2), (part(3, 0, 0), -2), (part(3, 2, 1), -2), (part(TOP, TOP, 0), -2), (part(0, 0, 0), -1),
    (part(0, TOP, 0), -1), (part(1, 2, 1), -1), (part(1, TOP, TOP - 1), -1), (part(2, 0, 0), -1), (part(2, 2, 1), -1),
    (part(2, 0, 1), -3), (part(2, 1, 1), -3), (part(2, TOP, TOP), -3),
    (up_to(3, 0), -2), (up_to(TOP, TOP), -2), (account(3), -2), (account(TOP), -2), (buckets(3), -2),
    (buckets(TOP), -2), (edges(60), -1), (edges(1000), -1), (edges(1001), -1), (edges(TOP), -1),
]

# Nothing is changed by a call that asks and is answered, either.
ONLY_ASK = [rank(0, 0), part(0, 1, 3), part(1, 1, 1), up_to(0, 0), up_to(1, 4), up_to(2, TOP), account(0), account(2),
            buckets(0), buckets(2), edges(0), edges(59)]


class Refusals(unittest.TestCase):
    def test_each_alone(self):
        without = ask(*TOLD, *LOOKED_AT)
        for call, number in REFUSED:
            with self.subTest(call=call):
                given = ask(*TOLD, call, *LOOKED_AT)
                self.assertEqual(given[len(TOLD)], [number])
                self.assertEqual(given[:len(TOLD)] + given[len(TOLD) + 1:], without)

    def test_many_one_behind_another(self):
        without = ask(*TOLD, *LOOKED_AT)
        for start in range(0, len(REFUSED), 20):
            some = REFUSED[start:start + 20]
            given = ask(*TOLD, *[call for call, number in some], *LOOKED_AT)
            self.assertEqual(given[len(TOLD):len(TOLD) + len(some)], [[number] for call, number in some])
            self.assertEqual(given[:len(TOLD)] + given[len(TOLD) + len(some):], without)

    def test_at_a_line_s_beginning(self):
        looked_at = [account(0), buckets(0), edges(9), add(0, 5), add(0, 6), rank(0, 1), account(0), add(1, 1)]
        for call in (begin(3, 1, 7), add(1, 1), add(0, TOP), join(0, 0), join(0, 1), clear(1), rank(0, 0), rank(1, 0),
                     part(1, 1, 1), part(0, 1, 0), part(0, 1, 1), up_to(1, 1), account(1), buckets(1), edges(1001)):
            given = ask(call, *looked_at)
            self.assertLess(given[0][0], 0)
            self.assertEqual(len(given[0]), 1)
            self.assertEqual(given[1:], ask(*looked_at))


class Asking(unittest.TestCase):
    def test_changes_nothing(self):
        without = ask(*TOLD, *LOOKED_AT)
        for call in ONLY_ASK:
            with self.subTest(call=call):
                given = ask(*TOLD, call, *LOOKED_AT)
                self.assertGreaterEqual(given[len(TOLD)][0], 0)
                self.assertEqual(given[:len(TOLD)] + given[len(TOLD) + 1:], without)
