"""The calls on one house, gone through one behind another.

Each call answers a list of numbers. A refusal is one number below 0 alone: -1 if the call doesn't take
such numbers, -2 if there's no such account, -3 if there's no such rank. Of several refusals the one that
the call tells first is answered, so a call asks in that order.
"""

from widebuckets.account import Account
from widebuckets.buckets import bucket_begin, bucket_end
from widebuckets.ranks import told_of_rank, told_up_to

GREATEST_VALUE = 1000000000
MOST_TIMES = 1000000
LAST_BUCKET = 1000
GREATEST_END = 1000000000000000000


class House:
    def __init__(self):
        self.begin(10, 20, 1)

    def begin(self, fineness, most, accounts):
        self.fineness = fineness
        self.most = most
        self.accounts = [Account(fineness, most) for number in range(accounts)]

    def lacks(self, number):
        return number >= len(self.accounts)

    def make_new(self, number):
        self.accounts[number] = Account(self.fineness, self.most)


def answer_begin(house, numbers):
    fineness = numbers[0]
    most = numbers[1]
    accounts = numbers[2]
    if not (3 <= fineness <= 40 and 1 <= most <= 200 and 1 <= accounts <= 6):
        return [-1]
    house.begin(fineness, most, accounts)
    return [0]


def answer_add(house, numbers):
    value = numbers[1]
    times = numbers[2]
    if house.lacks(numbers[0]):
        return [-2]
    if value > GREATEST_VALUE or times > MOST_TIMES:
        return [-1]
    account = house.accounts[numbers[0]]
    account.tell(value, times)
    return [account.total, len(account.counts)]


def answer_join(house, numbers):
    if house.lacks(numbers[0]) or house.lacks(numbers[1]):
        return [-2]
    if numbers[0] == numbers[1]:
        return [-1]
    account = house.accounts[numbers[0]]
    account.put_together(house.accounts[numbers[1]])
    return [account.total, len(account.counts)]


def answer_clear(house, numbers):
    if house.lacks(numbers[0]):
        return [-2]
    house.make_new(numbers[0])
    return [0]


def answer_rank(house, numbers):
    if house.lacks(numbers[0]):
        return [-2]
    account = house.accounts[numbers[0]]
    if numbers[1] >= account.total:
        return [-3]
    return told_of_rank(account, numbers[1])


def answer_part(house, numbers):
    part = numbers[1]
    whole = numbers[2]
    if house.lacks(numbers[0]):
        return [-2]
    if whole == 0 or part > whole:
        return [-1]
    account = house.accounts[numbers[0]]
    if account.total == 0:
        return [-3]
    return told_of_rank(account, part * (account.total - 1) // whole)


def answer_up_to(house, numbers):
    if house.lacks(numbers[0]):
        return [-2]
    return told_up_to(house.accounts[numbers[0]], numbers[1])


def answer_account(house, numbers):
    if house.lacks(numbers[0]):
        return [-2]
    account = house.accounts[numbers[0]]
    cut = 1 if account.is_cut else 0
    return [account.total, account.zeros, account.amount, account.least, account.greatest, cut]


def answer_buckets(house, numbers):
    if house.lacks(numbers[0]):
        return [-2]
    counts = house.accounts[numbers[0]].counts
    told = [len(counts)]
    # The dict has its buckets in the order in which they came.
    for number in sorted(counts):
        told.append(number)
        told.append(counts[number])
    return told


def answer_edges(house, numbers):
    number = numbers[0]
    # Asked first, as the end of a bucket takes as many steps as its number.
    if number > LAST_BUCKET:
        return [-1]
    end = bucket_end(house.fineness, number)
    if end > GREATEST_END:
        return [-1]
    return [bucket_begin(house.fineness, number), end]


# By a call's number: how many numbers it has behind that, and what answers it.
CALLS = {
    1: (3, answer_begin),
    2: (3, answer_add),
    3: (2, answer_join),
    4: (1, answer_clear),
    5: (2, answer_rank),
    6: (3, answer_part),
    7: (2, answer_up_to),
    8: (1, answer_account),
    9: (1, answer_buckets),
    10: (1, answer_edges),
}


def answers(calls):
    house = House()
    given = []
    place = 0
    while place < len(calls):
        call = CALLS[calls[place]]
        behind = place + 1 + call[0]
        answer = call[1](house, calls[place + 1:behind])
        given.append(len(answer))
        given.extend(answer)
        place = behind
    return given
