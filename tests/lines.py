"""Lines of calls, written and read call by call."""

from widebuckets.house import answers

TOP = 2 ** 64 - 1


def begin(k, m, accounts):
    return (1, k, m, accounts)


def add(account, value, times=1):
    return (2, account, value, times)


def join(account, other):
    return (3, account, other)


def clear(account):
    return (4, account)


def rank(account, r):
    return (5, account, r)


def part(account, p, q):
    return (6, account, p, q)


def up_to(account, v):
    return (7, account, v)


def account(number):
    return (8, number)


def buckets(number):
    return (9, number)


def edges(i):
    return (10, i)


def flat(calls):
    return [number for call in calls for number in call]


def split(given):
    """The answers one by one; fails if the counts ahead of them don't fit."""
    found = []
    place = 0
    while place < len(given):
        count = given[place]
        answer = given[place + 1:place + 1 + count]
        if count < 1 or len(answer) != count:
            raise AssertionError(f"a count of {count} with {len(answer)} numbers behind it")
        found.append(answer)
        place += 1 + count
    return found


def ask(*calls):
    given = split(answers(flat(calls)))
    if len(given) != len(calls):
        raise AssertionError(f"{len(calls)} calls have {len(given)} answers")
    return given


def last(*calls):
    return ask(*calls)[-1]
