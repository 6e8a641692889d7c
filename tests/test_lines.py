"""Whole lines of all ten calls against a house that keeps every value."""

import random
import unittest

from lines import TOP, account, add, ask, begin, buckets, clear, edges, flat, join, part, rank, split, up_to
from model import Model, end
from samples import FINENESSES, some_value
from widebuckets.house import answers


def some_account(source, accounts):
    return source.randrange(accounts) if source.randrange(12) else source.choice((accounts, 6, TOP))


def some_add(source, number):
    times = source.choice((0, 1, 1, 1, 2, 3, 5, 10 ** 6, 10 ** 6 + 1))
    value = some_value(source) if source.randrange(12) else source.choice((10 ** 9 + 1, TOP))
    return add(number, value, times)


def some_begin(source):
    return begin(source.randrange(2, 42), source.choice((0, 1, 2, 200, 201)), source.randrange(0, 8))


def some_rank(source, number):
    return rank(number, source.choice((0, 1, 2, 3, 4, 5, 8, 12, 10 ** 6, 10 ** 6 + 2, TOP)))


def some_part(source, number):
    q = source.choice((0, 1, 2, 3, 10, 100, TOP, source.randrange(2 ** 64)))
    p = source.choice((0, 1, q, q // 2, q - 1 if q else TOP, min(q + 1, TOP), source.randrange(q + 1)))
    return part(number, p, q)


def some_up_to(source, number):
    v = source.choice((0, 1, TOP, 10 ** 9, some_value(source), some_value(source), some_value(source)))
    if source.randrange(2):
        v = end(source.choice(FINENESSES), source.randrange(60)) + source.randrange(2)
    return up_to(number, v)


def some_edges(source):
    return edges(source.choice((0, 1, 59, 60, 828, 829, 999, 1000, 1001, TOP, source.randrange(1002),
                                source.randrange(240))))


def some_call(source, accounts):
    kind = source.randrange(30)
    number = some_account(source, accounts)
    if kind < 11:
        return some_add(source, number)
    if kind < 14:
        return join(number, some_account(source, accounts))
    if kind < 15:
        return clear(number) if source.randrange(3) else some_begin(source)
    if kind < 18:
        return some_rank(source, number)
    if kind < 21:
        return some_part(source, number)
    if kind < 24:
        return some_up_to(source, number)
    return (account(number), account(number), buckets(number), buckets(number), some_edges(source),
            some_edges(source))[kind - 24]


def some_line(source, begins):
    calls = []
    accounts = 1
    if begins:
        accounts = source.randrange(1, 7)
        calls.append(begin(source.choice(FINENESSES), source.choice((1, 2, 3, 4, 8, 200)), accounts))
    while len(calls) < 60:
        calls.append(some_call(source, accounts))
    return calls


class AgainstTheModel(unittest.TestCase):
    def check(self, calls):
        house = Model()
        handed = flat(calls)
        kept = list(handed)
        self.assertLessEqual(len(handed), 240)
        expected = [house.answer(call) for call in calls]
        self.assertEqual(split(answers(handed)), expected, calls)
        self.assertEqual(handed, kept)

    def test_sixty_calls_of_all_ten(self):
        source = random.Random(6)
        for turn in range(1200):
            self.check(some_line(source, turn % 5 > 0))

    def test_each_call_comes_and_each_refusal(self):
        source = random.Random(6)
        found = set()
        for turn in range(200):
            calls = some_line(source, turn % 5 > 0)
            found.update((call[0], min(answer[0], 0)) for call, answer in zip(calls, ask(*calls), strict=True))
        self.assertEqual(found, {(1, 0), (1, -1), (2, 0), (2, -1), (2, -2), (3, 0), (3, -1), (3, -2), (4, 0), (4, -2),
                                 (5, 0), (5, -2), (5, -3), (6, 0), (6, -1), (6, -2), (6, -3), (7, 0), (7, -2),
                                 (8, 0), (8, -2), (9, 0), (9, -2), (10, 0), (10, -1)})

    def test_two_hundred_and_forty_numbers(self):
        source = random.Random(7)
        for _ in range(200):
            calls = [begin(source.choice(FINENESSES), source.choice((1, 2, 3, 8)), 2)]
            while len(calls) < 60:
                number = some_account(source, 2)
                calls.append(some_add(source, number) if source.randrange(2) else some_part(source, number))
            self.assertEqual(len(flat(calls)), 240)
            self.check(calls)

    def test_few_calls(self):
        source = random.Random(8)
        for turn in range(600):
            self.check(some_line(source, turn % 2)[:source.randrange(1, 12)])

    def test_edges_of_every_bucket(self):
        for k in FINENESSES:
            for start in range(0, 1002, 59):
                self.check([begin(k, 1, 1)] + [edges(i) for i in range(start, min(start + 59, 1002))])

    def test_one_line_behind_another_keeps_nothing(self):
        source = random.Random(9)
        lines = [flat(some_line(source, turn % 2)) for turn in range(60)]
        first = [answers(line) for line in lines]
        self.assertEqual([answers(line) for line in reversed(lines)], first[::-1])
