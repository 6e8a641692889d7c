"""Behind a refusal all is as it was."""

import unittest

from lines import TOP, add, ask, begin, clear, join, rank

TOLD = [begin(3, 2, 3), add(0, 2), add(0, 3), add(0, 6), add(0, 0), add(1, 3), add(1, 4, 2)]

# What can be seen of the three accounts, then what shows whether they were cut.
LOOKED_AT = ([rank(0, r) for r in range(5)] + [rank(1, r) for r in range(4)] + [rank(2, 0)]
             + [add(0, 9, 0), add(1, 9, 0), add(2, 9, 0)]
             + [add(0, 1), rank(0, 1), add(1, 1), rank(1, 3), add(2, 1), rank(2, 0), add(3, 0)]
             + [join(2, 0), rank(2, 2), join(2, 1), rank(2, 3)])

REFUSED = [
    (begin(2, 20, 1), -1), (begin(41, 20, 1), -1), (begin(10, 0, 1), -1), (begin(10, 201, 1), -1),
    (begin(10, 20, 0), -1), (begin(10, 20, 7), -1), (begin(TOP, TOP, TOP), -1), (begin(0, 0, 0), -1),
    (add(3, 1), -2), (add(TOP, 1), -2), (add(0, 10 ** 9 + 1), -1), (add(1, 1, 10 ** 6 + 1), -1),
    (add(2, TOP, TOP), -1), (add(3, TOP, 1), -2), (add(3, 1, TOP), -2), (add(TOP, TOP, TOP), -2),
    (add(0, 10 ** 9 + 1, 0), -1), (add(3, 1, 0), -2),
    (join(0, 3), -2), (join(3, 0), -2), (join(TOP, TOP), -2), (join(3, 3), -2), (join(0, 0), -1), (join(2, 2), -1),
    (clear(3), -2), (clear(TOP), -2),
    (rank(3, 0), -2), (rank(TOP, TOP), -2), (rank(0, 4), -3), (rank(1, 3), -3), (rank(2, 0), -3), (rank(0, TOP), -3),
]


class Refusals(unittest.TestCase):
    def test_each_alone(self):
        without = ask(*TOLD, *LOOKED_AT)
        for call, number in REFUSED:
            with self.subTest(call=call):
                given = ask(*TOLD, call, *LOOKED_AT)
                self.assertEqual(given[len(TOLD)], [number])
                self.assertEqual(given[:len(TOLD)] + given[len(TOLD) + 1:], without)

    def test_many_one_behind_another(self):
        without = ask(*TOLD, *LOOKED_AT)
        for start in range(0, len(REFUSED), 20):
            some = REFUSED[start:start + 20]
            given = ask(*TOLD, *[call for call, number in some], *LOOKED_AT)
            self.assertEqual(given[len(TOLD):len(TOLD) + len(some)], [[number] for call, number in some])
            self.assertEqual(given[:len(TOLD)] + given[len(TOLD) + len(some):], without)

    def test_at_a_line_s_beginning(self):
        looked_at = [rank(0, 0), add(0, 5), add(0, 6), rank(0, 1), add(1, 1)]
        for call in (begin(3, 1, 7), add(1, 1), add(0, TOP), join(0, 0), join(0, 1), clear(1), rank(0, 0), rank(1, 0)):
            self.assertEqual(ask(call, *looked_at)[1:], ask(*looked_at))
