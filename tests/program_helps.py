"""What the tests of the programs share: short words for writing programs, and programs to try."""


def num(n):
    return ("num", n)


def name(x):
    return ("name", x)


def of(thing):
    """An expression as it is, a whole number as one, a text as a name."""
    if isinstance(thing, int):
        return num(thing)
    if isinstance(thing, str):
        return name(thing)
    return thing


def add(one, other):
    return ("add", of(one), of(other))


def times(one, other):
    return ("times", of(one), of(other))


def put(x, expression):
    return ("set", x, of(expression))


def say(expression):
    return ("say", of(expression))


def grow(x, expression):
    """The statement by which x grows by what the expression tells."""
    return put(x, add(x, expression))


def row(*statements):
    return ("row", statements)


def lap(guard, *statements, measure=1):
    return ("lap", guard, of(measure), row(*statements))


def deep(levels, inmost=("name", "a")):
    """An expression that is so many deep."""
    expression = inmost
    for level in range(levels - 1):
        expression = add(expression, 1) if level % 2 else times(2, expression)
    return expression


def within(levels, *statements):
    """A program with the statements within so many laps."""
    inner = row(*statements)
    for guard in ("i", "j", "k", "l", "m")[:levels]:
        inner = row(("lap", guard, name(guard), inner))
    return inner


class Chances:
    """Numbers that look like chance and are the same each time."""

    def __init__(self, seed):
        self.now = seed * 7919 + 1

    def below(self, many):
        self.now = (self.now * 6364136223846793005 + 1442695040888963407) % 2 ** 64
        return (self.now >> 33) % many

    def one_of(self, things):
        return things[self.below(len(things))]


def some_expression(chances, names, levels):
    kind = chances.below(10)
    if levels == 1 or kind < 5:
        return name(chances.one_of(names)) if chances.below(3) else num(chances.one_of((0, 1, 1, 2, 3)))
    one = some_expression(chances, names, levels - 1)
    other = some_expression(chances, names, levels - 1)
    return times(one, other) if kind == 9 else add(one, other)


def some_row(chances, names, laps, most):
    """A row that has a form of point 2, with laps so many within one another at the most."""
    statements = []
    for _ in range(chances.below(most + 1)):
        kind = chances.below(10)
        if kind < 6 or not laps:
            statements.append(put(chances.one_of(names), some_expression(chances, names, 3)))
        elif kind == 6:
            statements.append(say(some_expression(chances, names, 2)))
        else:
            measure = some_expression(chances, names, 2)
            statements.append(("lap", chances.one_of(names), measure, some_row(chances, names, laps - 1, 3)))
    return ("row", tuple(statements))
