"""Runs: a program done as it stands, lap by lap and turn by turn."""

from lapfold.errors import Dry
from lapfold.forms import names_of


class Run:
    """How far a run has come: what it told, its names, its turns in all and the entries of its laps."""

    def __init__(self, names, most):
        self.names = {name: number for name, number in names.items()}
        self.most = most
        self.told = []
        self.turns = 0
        self.entries = []


def ran(program, names, most):
    """What the program, begun with the dict names, tells: a tuple (told, names, turns, entries).

    Refused with Dry where one more turn than most would begin.
    """
    run = Run(names, most)
    for name in names_of(program):
        run.names.setdefault(name, 0)
    _do_row(run, program, ())
    return (run.told, run.names, run.turns, run.entries)


def _do_row(run, row, place):
    """Does the row of the lap at the place; that of the program is at ()."""
    for at, statement in enumerate(row[1]):
        if statement[0] == "set":
            run.names[statement[1]] = _reckoned(statement[2], run.names)
        elif statement[0] == "say":
            run.told.append(_reckoned(statement[1], run.names))
        else:
            _do_lap(run, statement, place + (at,))


def _do_lap(run, lap, place):
    """Does all turns of the lap at the place; its entry is made when it is left."""
    guard = lap[1]
    measure = _reckoned(lap[2], run.names)
    turns = 0
    while run.names[guard] != 0:
        if run.turns >= run.most:
            raise Dry("one more turn would begin than was told as a most")
        run.turns += 1
        turns += 1
        run.names[guard] -= 1
        _do_row(run, lap[3], place)
    run.entries.append((place, measure, turns))


def _reckoned(expression, names):
    """The number that the expression is where the names are as the dict has them."""
    word = expression[0]
    if word == "num":
        return expression[1]
    if word == "name":
        return names[expression[1]]
    one = _reckoned(expression[1], names)
    other = _reckoned(expression[2], names)
    if word == "add":
        return one + other
    return one * other
