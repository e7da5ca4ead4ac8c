"""What a row does: each name's number behind it, told as a sum of what the names are ahead of it.

A blurred name, whose number isn't known, has a Sum, too: a word that stands for that number. So
what hangs on it is found when all has been put in: it has a part with the word. It is blurred then
itself, and gets its own word.
"""

from lapfold.forms import names_of, sum_told
from lapfold.sums import added, is_natural, lessened, names_in, put_in, same
from lapfold.sums import sum_of_name, sum_of_number, totalled

# These stand in sums beside the names of a program, none of which has a blank in it.
TURN = "the turn"
BLURRED = "blurred "


def done_by(row):
    """A dict from all names of the row to their Sums behind it, rising; blurred ones are left out."""
    sums = _behind(row, names_of(row))
    return {name: sums[name] for name in sums if not hangs_on_blurred(sums[name])}


def hangs_on_blurred(given):
    """True where the sum given has a part with the word for a blurred name."""
    return any([word.startswith(BLURRED) for word in names_in(given)])


def at_first(names):
    """A dict from the names to their Sums ahead of all: each stands for itself."""
    return {name: sum_of_name(name) for name in names}


def names_of_lap(lap):
    """All names that stand in the lap: a list, rising."""
    return names_of(("row", (lap,)))


def behind_turn(lap):
    """A dict from the names of the lap to their Sums behind a turn of it.

    The guard stands for what it is when one was taken off.
    """
    return _behind(lap[3], names_of_lap(lap))


def do_set(sums, statement):
    """Changes the dict sums from what the names are ahead of the set to what they are behind it."""
    _keep(sums, statement[1], put_in(sum_told(statement[2]), sums))


def do_lap(sums, lap, turn):
    """Changes the dict sums from what the names are ahead of the lap to what they are behind it.

    The dict turn has what they are behind a turn of it.
    """
    guard = lap[1]
    ends = {}
    if is_even(guard, turn):
        ends = _ends_of_even(guard, turn, sums)
    for name in _may_set(lap[3]):
        _keep(sums, name, ends.get(name, _blurred(name)))
    sums[guard] = sum_of_number(0)


def is_even(guard, turn):
    """True where the guard is itself behind a turn."""
    return same(turn[guard], sum_of_name(guard))


def told_in_turns(guard, turn):
    """A dict from names to their Sums when the row begins in a turn, by its number and what names were at first.

    It has the names that the row doesn't change, those that grow by what is told here, and the guard.
    """
    one_taken = lessened(sum_of_name(guard), sum_of_number(1))
    told = {guard: lessened(one_taken, sum_of_name(TURN))}
    growths = {name: lessened(turn[name], sum_of_name(name)) for name in turn}
    more_told = True
    while more_told:
        more_told = False
        for name in growths:
            if name not in told and all_told(growths[name], told):
                told[name] = added(sum_of_name(name), grown(growths[name], told))
                more_told = True
    return told


def all_told(given, told):
    """True where the dict told has all names of the sum given."""
    return all([name in told for name in names_in(given)])


def grown(growth, told):
    """What the sum growth, by which a thing grows in each turn, comes to for the turns ahead of the turn."""
    return totalled(put_in(growth, told), TURN, sum_of_name(TURN))


def in_turn(given, number, ahead):
    """The sum given, told for any turn, for that with the Sum number, the dict ahead having the names' sums."""
    return put_in(given, {**ahead, TURN: number})


def _behind(row, names):
    """A dict from the names to their Sums behind the row; ahead of it each stands for itself."""
    sums = at_first(names)
    for statement in row[1]:
        if statement[0] == "set":
            do_set(sums, statement)
        elif statement[0] == "lap":
            do_lap(sums, statement, behind_turn(statement))
    return sums


def _keep(sums, name, told):
    """Has the dict sums tell the Sum told for the name, which is blurred where that hangs on a blurred one."""
    if hangs_on_blurred(told):
        sums[name] = _blurred(name)
    else:
        sums[name] = told


def _blurred(name):
    """The Sum of the name where it is blurred."""
    return sum_of_name(BLURRED + name)


def _may_set(row):
    """A list of all names that the row may set, rising: the guards of its laps are among them."""
    found = {}
    for statement in row[1]:
        if statement[0] != "say":
            found[statement[1]] = True
        if statement[0] == "lap":
            for name in _may_set(statement[3]):
                found[name] = True
    return sorted(found)


def _ends_of_even(guard, turn, ahead):
    """A dict from names to their Sums behind an even lap; it lacks those that are not told.

    The dict turn has what one turn does, the dict ahead what the names are ahead of the lap.
    """
    told = told_in_turns(guard, turn)
    many = ahead[guard]
    ends = {name: in_turn(told[name], many, ahead) for name in told}
    last = lessened(many, sum_of_number(1))
    # Where the guard is blurred, last has a share below nought, too: the one taken from its word.
    if is_natural(last):
        for name in turn:
            # What is not told in the turns is set anew, unless it hangs on such a name, be it its own.
            if name not in told and all_told(turn[name], told):
                ends[name] = in_turn(put_in(turn[name], told), last, ahead)
    return ends
