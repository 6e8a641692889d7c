"""Between which two the value of a rank lies, the number between, and how many values are up to one."""

from widebuckets.buckets import bucket_begin, bucket_end


def told_of_rank(account, rank):
    """The rank, the two, and the number between as a fraction, for a rank that the account has."""
    ends = ends_of_rank(account, rank)
    return [rank] + ends + number_between(ends[0], ends[1])


def told_up_to(account, value):
    """Of how many values it's sure that they're at most this one, and of how many it may be."""
    sure = account.zeros
    maybe = account.zeros
    for number in account.counts:
        if greater_end(account, number) <= value:
            sure += account.counts[number]
        if lesser_end(account, number) <= value:
            maybe += account.counts[number]
    return [sure, maybe]


def ends_of_rank(account, rank):
    if rank < account.zeros:
        return [0, 0]
    number = bucket_of_rank(account, rank)
    return [lesser_end(account, number), greater_end(account, number)]


def bucket_of_rank(account, rank):
    """The last bucket that has its first rank at or before this one."""
    first = account.zeros
    found = 0
    for number in sorted(account.counts):
        if first <= rank:
            found = number
        first += account.counts[number]
    return found


def lesser_end(account, number):
    # What was given up is counted in the lowest bucket, so that one may hold values down to 1.
    if account.is_cut and number == min(account.counts):
        return max(1, account.least)
    return max(bucket_begin(account.fineness, number), account.least)


def greater_end(account, number):
    return min(bucket_end(account.fineness, number), account.greatest)


def number_between(lesser, greater):
    if greater == 0:
        return [0, 1]
    top = 2 * lesser * greater
    bottom = lesser + greater
    common = greatest_divisor(top, bottom)
    return [top // common, bottom // common]


def greatest_divisor(one, other):
    while other > 0:
        rest = one % other
        one = other
        other = rest
    return one
