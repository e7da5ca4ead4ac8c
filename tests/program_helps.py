"""What the tests of the programs share: short words for writing programs, and programs to try."""

from itertools import product


def num(n):
    return ("num", n)


def name(x):
    return ("name", x)


def of(thing):
    """An expression as it is, a whole number as one, a text as a name."""
    if isinstance(thing, int):
        return num(thing)
    if isinstance(thing, str):
        return name(thing)
    return thing


def add(one, other):
    return ("add", of(one), of(other))


def times(one, other):
    return ("times", of(one), of(other))


def put(x, expression):
    return ("set", x, of(expression))


def say(expression):
    return ("say", of(expression))


def grow(x, expression):
    """The statement by which x grows by what the expression tells."""
    return put(x, add(x, expression))


def row(*statements):
    return ("row", statements)


def lap(guard, *statements, measure=1):
    return ("lap", guard, of(measure), row(*statements))


def deep(levels, inmost=("name", "a")):
    """An expression that is so many deep."""
    expression = inmost
    for level in range(levels - 1):
        expression = add(expression, 1) if level % 2 else times(2, expression)
    return expression


def within(levels, *statements):
    """A program with the statements within so many laps."""
    inner = row(*statements)
    for guard in ("i", "j", "k", "l", "m")[:levels]:
        inner = row(("lap", guard, name(guard), inner))
    return inner


class Chances:
    """Numbers that look like chance and are the same each time."""

    def __init__(self, seed):
        self.now = seed * 7919 + 1

    def below(self, many):
        self.now = (self.now * 6364136223846793005 + 1442695040888963407) % 2 ** 64
        return (self.now >> 33) % many

    def one_of(self, things):
        return things[self.below(len(things))]


def some_expression(chances, names, levels):
    kind = chances.below(10)
    if levels == 1 or kind < 5:
        return name(chances.one_of(names)) if chances.below(3) else num(chances.one_of((0, 1, 1, 2, 3)))
    one = some_expression(chances, names, levels - 1)
    other = some_expression(chances, names, levels - 1)
    return times(one, other) if kind == 9 else add(one, other)


def some_row(chances, names, laps, most):
    """A row that has a form of point 2, with laps so many within one another at the most."""
    statements = []
    for _ in range(chances.below(most + 1)):
        kind = chances.below(10)
        if kind < 6 or not laps:
            statements.append(put(chances.one_of(names), some_expression(chances, names, 3)))
        elif kind == 6:
            statements.append(say(some_expression(chances, names, 2)))
        else:
            measure = some_expression(chances, names, 2)
            statements.append(("lap", chances.one_of(names), measure, some_row(chances, names, laps - 1, 3)))
    return ("row", tuple(statements))


def even_row(chances, names, guards, most):
    """A row of which each lap is even: its guard is one of guards, set ahead of it, and nothing else sets that.

    No lap sets one of the names anew, so that what is told of these hangs on no lap having a turn.
    """
    statements = []
    for _ in range(chances.below(most) + 1):
        statements.extend(_even_statements(chances, names, names, guards))
    return ("row", tuple(statements))


def _even_statements(chances, names, read, guards):
    """Statements that set the names by what is read; those within a lap only have them grow."""
    kind = chances.below(8)
    if not guards or kind < 4:
        more = some_expression(chances, read, 2)
        if kind == 0 and read == names:
            return [put(chances.one_of(names), more)]
        return [say(more)] if kind == 1 else [grow(chances.one_of(names), more)]
    guard = guards[0]
    inner = []
    for _ in range(chances.below(3)):
        inner.extend(_even_statements(chances, names, read + guard, guards[1:]))
    many = chances.one_of((0, 1, 2, chances.one_of(read), add(chances.one_of(read), 1)))
    return [put(guard, many), ("lap", guard, name(guard), ("row", tuple(inner)))]


def points(names, numbers):
    """Ways to give the names these numbers: all where they are few, else some hundreds."""
    if len(numbers) ** len(names) <= 400:
        return [dict(zip(names, way)) for way in product(numbers, repeat=len(names))]
    chances = Chances(len(names))
    return [{x: chances.one_of(numbers) for x in names} for _ in range(300)]


def lapped_row(chances, names, guards, most):
    """A row with laps within laps, which may be even or not, fall or not; most guards are set ahead of their laps."""
    statements = []
    for _ in range(chances.below(most) + 1):
        statements.extend(_lapped_statements(chances, names, guards))
    return ("row", tuple(statements))


def _lapped_statements(chances, names, guards):
    kind = chances.below(10)
    if not guards or kind < 5:
        more = some_expression(chances, names, 2)
        if kind == 0:
            return [put(chances.one_of(names), more)]
        return [say(more)] if kind == 1 else [grow(chances.one_of(names), chances.one_of((more, 1, names[0])))]
    guard = guards[0]
    inner = []
    for _ in range(chances.below(3)):
        inner.extend(_lapped_statements(chances, names + guard, guards[1:]))
    measure = chances.one_of((name(guard), name(guard), add(guard, chances.one_of(names)), times(guard, 2)))
    found = [("lap", guard, measure, ("row", tuple(inner)))]
    if chances.below(5):
        found.insert(0, put(guard, chances.one_of((2, chances.one_of(names), add(chances.one_of(names), 1)))))
    return found


# Each breaks point 2 by itself.
BROKEN = (
    None, True, 0, "row", b"row", [], {}, (), object(), ["row", ()], ("row",), ("row", (), ()), ("row", []),
    ("Row", ()), ("row", (None,)), ("row", ((),)), ("row", (["set", "a", ("num", 1)],)),
    ("row", (("put", "a", ("num", 1)),)),
    ("row", (("set", "a"),)), ("row", (("set", "a", ("num", 1), ("num", 1)),)), ("row", (("say",),)),
    ("row", (("lap", "a", ("num", 1)),)), ("row", (("lap", "a", ("num", 1), ()),)),
    ("row", (("lap", "a", ("num", 1), ("row", [])),)),
    ("row", (put("", 1),)), ("row", (put("abcdefghi", 1),)), ("row", (put("A", 1),)), ("row", (put("a1", 1),)),
    ("row", (("lap", "a b", ("num", 1), ("row", ())),)), ("row", (say(""),)), ("row", (("say", ("name", 1)),)),
    ("row", (say(-1),)), ("row", (say(1000),)), ("row", (("say", ("num", True)),)), ("row", (("say", ("num", "1")),)),
    ("row", (("say", ("num",)),)), ("row", (("say", ("less", ("num", 1))),)), ("row", (("say", ["num", 1]),)),
    ("row", (("say", ("add", ("num", 1))),)), ("row", (say(deep(6)),)), ("row", (("lap", "a", deep(6), ("row", ())),)),
    ("row", (lap("a", say(deep(6))),)), within(4), ("row", (say(1),) * 41), within(2, *[say(1)] * 39),
)
