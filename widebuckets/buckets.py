"""Where buckets begin and end, and in which one a value is.

All is told by whole powers of k + 1 and k - 1, so nothing is ever rounded but where the words say so.
"""


def bucket_end(fineness, number):
    top = 1
    bottom = 1
    for step in range(number):
        top = top * (fineness + 1)
        bottom = bottom * (fineness - 1)
    return top // bottom


def bucket_begin(fineness, number):
    if number == 0:
        return 1
    return bucket_end(fineness, number - 1) + 1


def bucket_of(fineness, value):
    """The number of the bucket of a value from 1 on."""
    number = 0
    top = 1
    bottom = 1
    # A whole value is at most the end, a quotient rounded down, just if it's at most the quotient.
    while top < value * bottom:
        top = top * (fineness + 1)
        bottom = bottom * (fineness - 1)
        number += 1
    return number
