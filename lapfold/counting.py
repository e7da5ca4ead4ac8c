"""Turns told exactly: how many turns a program has in all, and what its names are at the end, as sums."""

from lapfold.changes import all_told, at_first, do_lap, do_set, done_by, grown, hangs_on_blurred
from lapfold.changes import in_turn, is_even, names_of_lap, told_in_turns
from lapfold.errors import Uneven
from lapfold.forms import names_of
from lapfold.sums import added, sum_of_number


def count_of(program):
    """The Sum that is, for every input, the count of all turns; refused with Uneven where there is none."""
    count, _ = _counted(program, names_of(program), ())
    return count


def ends_of(program):
    """A dict from the names of the program to their Sums at the end, rising; blurred ones are left out."""
    return done_by(program)


def _counted(row, names, place):
    """What the row of the lap at the place counts, a Sum, and a dict from the names to their Sums behind it."""
    count = sum_of_number(0)
    sums = at_first(names)
    for at, statement in enumerate(row[1]):
        if statement[0] == "set":
            do_set(sums, statement)
        elif statement[0] == "lap":
            inner = place + (at,)
            in_row, turn = _counted(statement[3], names_of_lap(statement), inner)
            count = added(count, _count_of_lap(statement[1], in_row, turn, sums, inner))
            do_lap(sums, statement, turn)
    return (count, sums)


def _count_of_lap(guard, in_row, turn, ahead, place):
    """What the lap at the place counts: a Sum, by what names are at the beginning of the row in which it lies.

    The sum in_row has what its row counts in a turn, the dict turn what the names are behind that, the
    dict ahead what they are when the lap is come to.
    """
    if not is_even(guard, turn):
        raise Uneven(place)
    told = told_in_turns(guard, turn)
    each_turn = added(sum_of_number(1), in_row)
    if not all_told(each_turn, told):
        raise Uneven(place)
    count = in_turn(grown(each_turn, told), ahead[guard], ahead)
    if hangs_on_blurred(count):
        raise Uneven(place)
    return count
