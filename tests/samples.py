"""Values and numbers drawn from a source of one's own, so that each run draws the same."""

FINENESSES = (3, 4, 5, 10, 25, 39, 40)


def some_value(source):
    kind = source.randrange(6)
    if kind == 0:
        return source.choice((0, 0, 1, 2, 3, 10 ** 9, 10 ** 9 - 1))
    if kind < 3:
        return source.randrange(0, 40)
    return source.randrange(0, 10 ** source.randrange(1, 10)) + source.randrange(2)


def some_values(source, count):
    return [some_value(source) for _ in range(count)]
