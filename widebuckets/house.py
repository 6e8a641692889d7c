"""The calls on one house, gone through one behind another.

Each call answers a list of numbers. A refusal is one number below 0 alone: -1 if the call doesn't take
such numbers, -2 if there's no such account, -3 if there's no such rank.
"""

from widebuckets.account import Account
from widebuckets.ranks import told_of_rank

GREATEST_VALUE = 1000000000
MOST_TIMES = 1000000


class House:
    def __init__(self):
        self.begin(10, 20, 1)

    def begin(self, fineness, most, accounts):
        self.fineness = fineness
        self.most = most
        self.accounts = [Account(fineness, most) for number in range(accounts)]

    def lacks(self, number):
        return number >= len(self.accounts)

    def make_new(self, number):
        self.accounts[number] = Account(self.fineness, self.most)


def answer_begin(house, numbers):
    fineness = numbers[0]
    most = numbers[1]
    accounts = numbers[2]
    if not (3 <= fineness <= 40 and 1 <= most <= 200 and 1 <= accounts <= 6):
        return [-1]
    house.begin(fineness, most, accounts)
    return [0]


def answer_add(house, numbers):
    value = numbers[1]
    times = numbers[2]
    if house.lacks(numbers[0]):
        return [-2]
    if value > GREATEST_VALUE or times > MOST_TIMES:
        return [-1]
    account = house.accounts[numbers[0]]
    account.tell(value, times)
    return [account.total, len(account.counts)]


def answer_join(house, numbers):
    if house.lacks(numbers[0]) or house.lacks(numbers[1]):
        return [-2]
    if numbers[0] == numbers[1]:
        return [-1]
    account = house.accounts[numbers[0]]
    account.put_together(house.accounts[numbers[1]])
    return [account.total, len(account.counts)]


def answer_clear(house, numbers):
    if house.lacks(numbers[0]):
        return [-2]
    house.make_new(numbers[0])
    return [0]


def answer_rank(house, numbers):
    if house.lacks(numbers[0]):
        return [-2]
    account = house.accounts[numbers[0]]
    if numbers[1] >= account.total:
        return [-3]
    return told_of_rank(account, numbers[1])


# By a call's number: how many numbers it has behind that, and what answers it.
CALLS = {
    1: (3, answer_begin),
    2: (3, answer_add),
    3: (2, answer_join),
    4: (1, answer_clear),
    5: (2, answer_rank),
}


def answers(calls):
    house = House()
    given = []
    place = 0
    while place < len(calls):
        call = CALLS[calls[place]]
        behind = place + 1 + call[0]
        answer = call[1](house, calls[place + 1:behind])
        given.append(len(answer))
        given.extend(answer)
        place = behind
    return given
