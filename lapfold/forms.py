"""Programs: whether a thing has the form of one, the names of one, and expressions told as sums."""

from lapfold.errors import BadForm
from lapfold.sums import added, sum_of_name, sum_of_number, timed

MOST_LETTERS = 8
HIGHEST_NUMBER = 999
MOST_DEEP = 5
MOST_STATEMENTS = 40
MOST_LAPS = 3

# What each kind of tuple may begin with, and how many parts it then has, that word counted.
ROWS = (("row", 2),)
STATEMENTS = (("set", 3), ("say", 2), ("lap", 4))
EXPRESSIONS = (("num", 2), ("name", 2), ("add", 3), ("times", 3))


def need_program(program):
    """None; whatever is no program is refused with BadForm."""
    _need_row(program, MOST_STATEMENTS, MOST_LAPS)


def names_of(program):
    """All names that stand in the program: a list, rising."""
    found = {}
    _find_in_row(program, found)
    return sorted(found)


def sum_told(expression):
    """The Sum that tells what the expression tells."""
    word = expression[0]
    if word == "num":
        return sum_of_number(expression[1])
    if word == "name":
        return sum_of_name(expression[1])
    one = sum_told(expression[1])
    other = sum_told(expression[2])
    if word == "add":
        return added(one, other)
    return timed(one, other)


def _word_of(thing, forms):
    """The word that the tuple thing begins with; refused where it has none of the forms."""
    # Kinds are looked at ahead of all else: what is handed in may be an object that answers anything.
    if type(thing) != tuple or len(thing) == 0:
        raise BadForm("a tuple that begins with a word is wanted")
    word = thing[0]
    if type(word) != str or (word, len(thing)) not in forms:
        raise BadForm("there is no such word here, or not with so many parts")
    return word


def _need_row(row, statements, laps):
    """How many of the statements that may come are left behind the row.

    The number laps tells how many laps may lie within one another in the row.
    """
    _word_of(row, ROWS)
    parts = row[1]
    if type(parts) != tuple:
        raise BadForm("the statements of a row are a tuple")
    left = statements
    for statement in parts:
        # Refused as soon as there are too many: a tuple that lies in itself many times would never be done.
        if left == 0:
            raise BadForm(f"a program has at most {MOST_STATEMENTS} statements")
        left = _need_statement(statement, left - 1, laps)
    return left


def _need_statement(statement, statements, laps):
    """How many of the statements that may come behind this one's beginning are left behind it."""
    word = _word_of(statement, STATEMENTS)
    if word == "say":
        _need_expression(statement[1], MOST_DEEP)
        return statements
    _need_name(statement[1])
    _need_expression(statement[2], MOST_DEEP)
    if word == "set":
        return statements
    if laps == 0:
        raise BadForm(f"laps lie at most {MOST_LAPS} within one another")
    return _need_row(statement[3], statements, laps - 1)


def _need_expression(expression, deep):
    """Refuses what is no expression that is at most so deep."""
    if deep == 0:
        raise BadForm(f"an expression is at most {MOST_DEEP} deep")
    word = _word_of(expression, EXPRESSIONS)
    if word == "num":
        _need_number(expression[1])
    elif word == "name":
        _need_name(expression[1])
    else:
        _need_expression(expression[1], deep - 1)
        _need_expression(expression[2], deep - 1)


def _need_number(n):
    """Refuses what is no number of an expression."""
    if type(n) != int or n < 0 or n > HIGHEST_NUMBER:
        raise BadForm(f"a number is a whole number from 0 to {HIGHEST_NUMBER}")


def _need_name(x):
    """Refuses what is no name."""
    if type(x) != str or len(x) == 0 or len(x) > MOST_LETTERS:
        raise BadForm(f"a name is a text of one to {MOST_LETTERS} letters")
    if any([sign < "a" or sign > "z" for sign in x]):
        raise BadForm("a name has no signs but the letters a to z")


def _find_in_row(row, found):
    """Puts all names of the row into the dict found."""
    for statement in row[1]:
        if statement[0] == "say":
            _find_in_expression(statement[1], found)
        else:
            found[statement[1]] = True
            _find_in_expression(statement[2], found)
        if statement[0] == "lap":
            _find_in_row(statement[3], found)


def _find_in_expression(expression, found):
    """Puts all names of the expression into the dict found."""
    if expression[0] == "name":
        found[expression[1]] = True
    elif expression[0] != "num":
        _find_in_expression(expression[1], found)
        _find_in_expression(expression[2], found)
