"""Laps that fall: whether the measure of each lap of a program is shown to fall in each of its turns."""

from lapfold.changes import behind_turn, hangs_on_blurred
from lapfold.errors import NeedntFall
from lapfold.forms import need_program, sum_told
from lapfold.sums import added, is_natural, lessened, put_in, sum_of_name, sum_of_number


def looked(program):
    """None; refused with BadForm what is no program, with NeedntFall the first lap that needn't fall."""
    need_program(program)
    _look_at_row(program, ())


def _look_at_row(row, place):
    """Refuses the first lap that needn't fall in the row of the lap at the place; that of the program is at ()."""
    for at, statement in enumerate(row[1]):
        if statement[0] == "lap":
            inner = place + (at,)
            if not _falls(statement):
                raise NeedntFall(inner)
            _look_at_row(statement[3], inner)


def _falls(lap):
    """True where the measure of the lap is shown to fall in each turn, by one at least."""
    guard = lap[1]
    measure = sum_told(lap[2])
    # Names stand for what they are when one was taken off the guard, so that it was one more ahead of that.
    ahead = put_in(measure, {guard: added(sum_of_name(guard), sum_of_number(1))})
    rest = lessened(ahead, put_in(measure, behind_turn(lap)))
    return not hangs_on_blurred(rest) and is_natural(lessened(rest, sum_of_number(1)))
