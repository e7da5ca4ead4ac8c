"""Folds: programs that are let by written as expressions over slots, without laps, and what folds tell."""

from lapfold.falls import looked
from lapfold.forms import names_of


def written(program):
    """The fold of the program; refused with BadForm or NeedntFall where that isn't let by.

    Its slots are the program's names, rising, and last the row of what was told.
    """
    looked(program)
    slots = {name: at for at, name in enumerate(names_of(program))}
    return _row_written(program, slots)


def value(fold, slots):
    """What the fold tells where its slots are the parts of the tuple slots: a number, a list or a tuple."""
    return _copied(_told(fold, slots))


def _row_written(row, slots):
    """The fold of a row, the dict slots having the number of each name's slot."""
    if len(row[1]) == 0:
        return _all_but(slots, {})
    parts = [_statement_written(statement, slots) for statement in row[1]]
    fold = parts[-1]
    for part in reversed(parts[:-1]):
        fold = ("with", part, fold)
    return fold


def _statement_written(statement, slots):
    """The fold of a statement."""
    if statement[0] == "set":
        return _all_but(slots, {slots[statement[1]]: _expression_written(statement[2], slots)})
    if statement[0] == "say":
        said = len(slots)
        return _all_but(slots, {said: ("more", ("slot", said), _expression_written(statement[1], slots))})
    return _lap_written(statement, slots)


def _lap_written(lap, slots):
    """The fold of a lap: as often as its measure tells a turn is done, or nothing where the guard is 0."""
    guard = slots[lap[1]]
    one_taken = _all_but(slots, {guard: ("less", ("slot", guard))})
    turn = ("with", one_taken, _row_written(lap[3], slots))
    if_any = ("where", ("slot", guard), turn, _all_but(slots, {}))
    return ("fold", _expression_written(lap[2], slots), _all_but(slots, {}), if_any)


def _all_but(slots, others):
    """The fold that is the tuple of all slots, those in the dict others being these folds."""
    return ("tuple", tuple([others.get(k, ("slot", k)) for k in range(len(slots) + 1)]))


def _expression_written(expression, slots):
    """The fold of an expression."""
    word = expression[0]
    if word == "num":
        return ("num", expression[1])
    if word == "name":
        return ("slot", slots[expression[1]])
    return (word, _expression_written(expression[1], slots), _expression_written(expression[2], slots))


def _told(fold, slots):
    """What the fold tells. It may have parts of the tuple slots in it, and the same list twice."""
    # What comes last in a with or a where is gone on with here and not by a call, so that rows may be long.
    while fold[0] in ("with", "where"):
        first = _told(fold[1], slots)
        if fold[0] == "with":
            slots = first
            fold = fold[2]
        elif first != 0:
            fold = fold[2]
        else:
            fold = fold[3]
    word = fold[0]
    if word == "fold":
        return _told_by_turns(fold, slots)
    if word == "tuple":
        return tuple([_told(part, slots) for part in fold[1]])
    if word == "slot":
        return slots[fold[1]]
    if word == "none":
        return []
    if word == "more":
        return _told(fold[1], slots) + [_told(fold[2], slots)]
    return _number_told(fold, slots)


def _number_told(fold, slots):
    """What a fold tells that is reckoned with numbers alone."""
    word = fold[0]
    if word == "num":
        return fold[1]
    one = _told(fold[1], slots)
    if word == "less":
        return max(0, one - 1)
    other = _told(fold[2], slots)
    if word == "add":
        return one + other
    return one * other


def _told_by_turns(fold, slots):
    """What a fold that begins with fold tells: a tuple."""
    so_far = _told(fold[2], slots)
    for _ in range(_told(fold[1], slots)):
        behind = _told(fold[3], so_far)
        # A turn that changes nothing is followed by none that does: measures may tell far more turns than there are.
        if behind == so_far:
            return so_far
        so_far = behind
    return so_far


def _copied(thing):
    """The number, row or tuple with all rows in it made anew."""
    if isinstance(thing, list):
        return [_copied(part) for part in thing]
    if isinstance(thing, tuple):
        return tuple([_copied(part) for part in thing])
    return thing
