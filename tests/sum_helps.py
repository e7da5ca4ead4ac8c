"""What the tests of the sums share: sums to try, and the form that each sum must have."""

from fractions import Fraction
from math import gcd

from lapfold.sums import Sum

X = (("x", 1),)
Y = (("y", 1),)
XX = (("x", 2),)
XY = (("x", 1), ("y", 1))

# By rows of parts, so that each test makes its own Sums.
PARTS = (
    {},
    {(): (1, 1)},
    {(): (-7, 3)},
    {X: (1, 1)},
    {Y: (2, 5)},
    {X: (1, 1), (): (1, 1)},
    {X: (-1, 1), Y: (1, 1), (): (-4, 1)},
    {XX: (1, 2), X: (-1, 2)},
    {XY: (3, 1), Y: (-1, 7), (("y", 3),): (1, 1)},
    {(("x", 3), ("y", 2), ("z", 1)): (-5, 6), (("z", 4),): (10 ** 21, 1), XX: (2, 1)},
)

POINTS = (
    {},
    {"x": 1},
    {"x": 2, "y": 3, "z": 5},
    {"x": -1, "y": -2, "z": -3},
    {"x": 0, "y": 7},
    {"y": -4, "z": 1, "other": 9},
    {"x": 10 ** 20, "y": -10 ** 15, "z": 11},
)


def all_sums():
    return [Sum(parts) for parts in PARTS]


def worth_by_hand(parts, names):
    """What the parts tell, as a Fraction, worked out without the package."""
    total = Fraction(0)
    for product, part in parts.items():
        told = Fraction(*part)
        for name, power in product:
            told *= names.get(name, 0) ** power
        total += told
    return total


def as_share(fraction):
    fraction = Fraction(fraction)
    return (fraction.numerator, fraction.denominator)


def faults_of(told):
    """A text for each way in which the parts of a Sum are not what they must be."""
    if told.__class__ is not Sum:
        return [f"{told!r} is no Sum"]
    if told.parts.__class__ is not dict:
        return [f"{told.parts!r} is no dict"]
    faults = []
    for product, part in told.parts.items():
        faults.extend(_faults_of_product(product) + _faults_of_share(part))
    return faults


def _faults_of_product(product):
    if product.__class__ is not tuple or any(pair.__class__ is not tuple for pair in product):
        return [f"{product!r} is no tuple of tuples"]
    names = [name for name, _ in product]
    faults = []
    if any(one >= other for one, other in zip(names, names[1:])):
        faults.append(f"names of {product!r} do not rise")
    if any(power.__class__ is not int or power < 1 for _, power in product):
        faults.append(f"a power of {product!r} is below 1")
    return faults


def _faults_of_share(part):
    if part.__class__ is not tuple or len(part) != 2:
        return [f"{part!r} is no share"]
    top, bottom = part
    if top == 0:
        return ["a share is nought"]
    if bottom < 1 or gcd(top, bottom) != 1:
        return [f"{part!r} is not in lowest terms"]
    return []
