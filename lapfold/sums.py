"""Sums: numbers told by names, as parts that are products of names with a share each.

A product is a tuple of pairs (name, power), names rising, powers from 1 on; that of no names, (), is 1.
"""

from lapfold.shares import share, plus, minus, times

NOUGHT = (0, 1)
ONE = (1, 1)


class Sum:
    """A sum. Its field parts is a dict from products to shares, none of which is nought."""

    def __init__(self, parts):
        self.parts = {product: part for product, part in parts.items()}


def sum_of_number(n):
    """The sum that is the whole number n for all names."""
    parts = {}
    _put_to(parts, (), (n, 1))
    return Sum(parts)


def sum_of_name(x):
    """The sum that is what the name x is."""
    return Sum({((x, 1),): ONE})


def added(one, other):
    """The sum of two sums."""
    total = {product: part for product, part in one.parts.items()}
    _put_all_to(total, other)
    return Sum(total)


def lessened(one, other):
    """The sum one with the sum other taken from it."""
    total = {product: part for product, part in one.parts.items()}
    for product, part in other.parts.items():
        _put_to(total, product, minus(NOUGHT, part))
    return Sum(total)


def timed(one, other):
    """One sum, as often as the other tells."""
    total = {}
    for product, part in one.parts.items():
        for other_product, other_part in other.parts.items():
            _put_to(total, _joined(product, other_product), times(part, other_part))
    return Sum(total)


def put_in(given, filling):
    """The sum given with the Sums of the dict filling in the place of its names, all at once."""
    risen = _risen_fillings(given, filling)
    total = {}
    for product, part in given.parts.items():
        _put_all_to(total, _filled(product, part, risen))
    return Sum(total)


def totalled(given, x, many):
    """The sum that tells what the sum given is for x as 0, 1, .. up to one below the sum many, added."""
    by_power = _totals_by_power(given, x)
    risen = _powers_of(many, sorted(by_power))
    total = {}
    for power in by_power:
        _put_all_to(total, timed(Sum(by_power[power]), risen[power]))
    return Sum(total)


def worth(given, names):
    """The share that the sum given tells where the names are as the dict names has them, the others 0."""
    total = NOUGHT
    for product, part in given.parts.items():
        number = 1
        for name, power in product:
            number = number * _number_raised(names.get(name, 0), power)
        total = plus(total, times(part, (number, 1)))
    return total


def is_natural(given):
    """True where no share of the sum given is below nought."""
    return all([part[0] >= 0 for part in given.parts.values()])


def same(one, other):
    """True where the two sums have the same parts."""
    return one.parts == other.parts


def names_in(given):
    """All names that stand in the sum given: a list, rising."""
    found = set()
    for product in given.parts:
        for name, _ in product:
            found.add(name)
    return sorted(found)


def _put_to(shares, key, part):
    """Adds the share part to what the dict shares has for the key; no share of nought is left there."""
    together = plus(shares.get(key, NOUGHT), part)
    if together == NOUGHT:
        shares.pop(key, None)
    else:
        shares[key] = together


def _put_all_to(parts, other):
    """Adds all parts of the sum other to the dict parts."""
    for product, part in other.parts.items():
        _put_to(parts, product, part)


def _joined(one, other):
    """The product of two products."""
    powers = {name: power for name, power in one}
    for name, power in other:
        powers[name] = powers.get(name, 0) + power
    return tuple(sorted(powers.items()))


def _number_raised(number, power):
    """The whole number number raised to the power.

    By squaring: where a number is 0 or 1, its power may be far above what a loop could count.
    """
    risen = 1
    square = number
    left = power
    while left > 0:
        if left % 2 == 1:
            risen = risen * square
        left = left // 2
        if left > 0:
            square = square * square
    return risen


def _powers_of(base, wanted):
    """A dict from each power in the rising list wanted to the sum base raised to it."""
    if len(base.parts) < 2:
        return {power: _part_raised(base, power) for power in wanted}
    found = {}
    risen = sum_of_number(1)
    reached = 0
    for power in wanted:
        for _ in range(reached, power):
            risen = timed(risen, base)
        reached = power
        found[power] = risen
    return found


def _part_raised(base, power):
    """The sum base, which has one part at most, raised to the power, which is 1 or more."""
    raised = {}
    for product, (top, bottom) in base.parts.items():
        risen = tuple([(name, many * power) for name, many in product])
        raised[risen] = (_number_raised(top, power), _number_raised(bottom, power))
    return Sum(raised)


def _risen_fillings(given, filling):
    """By name, for each name of given that is put in: a dict from the powers it has there to Sums."""
    wanted = {}
    for product in given.parts:
        for name, power in product:
            if name in filling:
                wanted.setdefault(name, {})[power] = True
    return {name: _powers_of(filling[name], sorted(wanted[name])) for name in wanted}


def _filled(product, part, risen):
    """The sum that one part becomes: risen has, by name and power, what is put in."""
    kept = tuple([pair for pair in product if pair[0] not in risen])
    told = Sum({kept: part})
    for name, power in product:
        if name in risen:
            told = timed(told, risen[name][power])
    return told


def _power_in(product, x):
    """To which power the name x stands in the product, 0 where it doesn't."""
    for name, power in product:
        if name == x:
            return power
    return 0


def _totals_by_power(given, x):
    """What given, totalled over x, is times each power of the count: a dict from powers to dicts of parts."""
    highest = max([_power_in(product, x) for product in given.parts], default=0)
    rows = _sums_of_powers(highest)
    found = {}
    for product, part in given.parts.items():
        rest = tuple([pair for pair in product if pair[0] != x])
        row = rows[_power_in(product, x)]
        for power in row:
            _put_to(found.setdefault(power, {}), rest, times(part, row[power]))
    return found


def _sums_of_powers(highest):
    """A list of S(0), S(1), .. S(highest), each a dict from powers of n to shares.

    S(k) is 0, 1, .. up to one below n, each to the power k, added.
    """
    rows = [{1: ONE}]
    for k in range(1, highest + 1):
        rows.append(_next_sum_of_powers(rows[k - 1], k))
    return rows


def _next_sum_of_powers(row, k):
    """S(k) for a k of 1 or more, row being S(k - 1).

    The rule that n to the power k + 1 is all S(j) times the ways to choose j of k + 1 sets S(k) apart
    by this: one more of n is n to the power k more. So the slope of S(k) is k times S(k - 1) and a
    number that hangs on nothing, and going up from row to row is far shorter than adding all S(j).
    """
    grown = {power + 1: times(row[power], share(k, power + 1)) for power in row}
    # For n as 1 only 0 to the power k is added, which is nought: that tells the number left open.
    rest = NOUGHT
    for part in grown.values():
        rest = plus(rest, part)
    _put_to(grown, 1, minus(NOUGHT, rest))
    return grown
