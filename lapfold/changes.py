"""What a row does: each name's number behind it, told as a sum of what the names are ahead of it.

A blurred name, whose number behind the row isn't known, is one that a dict of Sums does not have.
"""

from lapfold.forms import names_of, sum_told
from lapfold.sums import added, is_natural, lessened, names_in, put_in, same
from lapfold.sums import sum_of_name, sum_of_number, totalled

# Stands for the number of a turn in a sum. No name of a program has a blank in it.
TURN = "the turn"


def done_by(row):
    """A dict from all names of the row to their Sums behind it, rising; blurred ones are left out."""
    sums = _behind(row, names_of(row))
    return {name: sums[name] for name in sorted(sums)}


def _behind(row, names):
    """A dict from the names to their Sums behind the row; ahead of it each stands for itself."""
    sums = {name: sum_of_name(name) for name in names}
    for statement in row[1]:
        if statement[0] == "set":
            _keep(sums, statement[1], _filled(sum_told(statement[2]), sums))
        elif statement[0] == "lap":
            _do_lap(sums, statement)
    return sums


def _keep(sums, name, told):
    """Has the dict sums tell the Sum told for the name, which is blurred where that is None."""
    if told is None:
        sums.pop(name, None)
    else:
        sums[name] = told


def _filled(given, filling):
    """The sum given with the Sums of the dict filling in the place of its names.

    None, which stands for a blurred one, where the dict lacks such a name or given itself is None.
    """
    if given is None or any([name not in filling for name in names_in(given)]):
        return None
    return put_in(given, filling)


def _do_lap(sums, lap):
    """Changes the dict sums from what the names are ahead of the lap to what they are behind it."""
    guard = lap[1]
    turn = _behind(lap[3], names_of(("row", (lap,))))
    ends = {}
    if guard in turn and same(turn[guard], sum_of_name(guard)):
        ends = _ends_of_even(guard, turn, sums)
    for name in _may_set(lap[3]):
        _keep(sums, name, ends.get(name))
    sums[guard] = sum_of_number(0)


def _may_set(row):
    """A list of all names that the row may set, rising: the guards of its laps are among them."""
    found = {}
    for statement in row[1]:
        if statement[0] != "say":
            found[statement[1]] = True
        if statement[0] == "lap":
            for name in _may_set(statement[3]):
                found[name] = True
    return sorted(found)


def _ends_of_even(guard, turn, ahead):
    """A dict from names to their Sums behind an even lap: None, or no such name, for the blurred ones.

    The dict turn has what one turn does, the dict ahead what the names are ahead of the lap.
    """
    told = _told_in_turns(guard, turn)
    at_end = _with_turn(ahead, ahead.get(guard))
    ends = {name: _filled(told[name], at_end) for name in told if name != guard}
    if _surely_turns(ahead.get(guard)):
        last = _with_turn(ahead, lessened(ahead[guard], sum_of_number(1)))
        # What is not told in the turns is set anew, unless it hangs on such a name, be it its own.
        for name in turn:
            if name not in told:
                ends[name] = _filled(_filled(turn[name], told), last)
    return ends


def _with_turn(ahead, number):
    """The dict ahead, copied, with the Sum number for the turn's number; that is blurred where it is None."""
    filling = {name: ahead[name] for name in ahead}
    _keep(filling, TURN, number)
    return filling


def _surely_turns(many):
    """True where the count of turns is a Sum that, less 1, has no share below nought."""
    return many is not None and is_natural(lessened(many, sum_of_number(1)))


def _told_in_turns(guard, turn):
    """A dict from names to their Sums when the row begins in a turn, by its number and what names were at first.

    It has the names that the row doesn't change, those that grow by what is told here, and the guard.
    """
    one_taken = lessened(sum_of_name(guard), sum_of_number(1))
    told = {guard: lessened(one_taken, sum_of_name(TURN))}
    growths = {name: lessened(turn[name], sum_of_name(name)) for name in turn}
    more_told = True
    while more_told:
        more_told = False
        for name in growths:
            if name not in told:
                _keep(told, name, _grown(name, growths[name], told))
                more_told = more_told or name in told
    return told


def _grown(name, growth, told):
    """What the name is when the row begins in a turn, growth being by what it grows in one.

    None where that hangs on what isn't told, as on the name itself.
    """
    in_turn = _filled(growth, told)
    if in_turn is None:
        return None
    return added(sum_of_name(name), totalled(in_turn, TURN, sum_of_name(TURN)))
