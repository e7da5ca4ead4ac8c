"""lapfold.sums.totalled: what a sum tells for a name as 0, 1, .. up to one below another sum, added."""

import unittest
from fractions import Fraction
from math import comb

from lapfold.sums import Sum, added, lessened, names_in, same, sum_of_name, sum_of_number, timed, totalled, worth
from sum_helps import PARTS, X, XX, XY, Y, all_sums, as_share, faults_of, worth_by_hand

# Each tells a whole number from nought on at each of the points below.
MANY = (
    {},
    {(): (1, 1)},
    {(): (5, 1)},
    {Y: (1, 1)},
    {X: (1, 1)},
    {Y: (1, 1), (): (1, 1)},
    {X: (2, 1), (): (3, 1)},
    {XY: (1, 1)},
    {XX: (1, 2), X: (-1, 2)},
    {XX: (1, 1), Y: (1, 1)},
)
POINTS = [{"x": x, "y": y, "z": 4} for x in range(4) for y in range(4)] + [{}, {"y": 7}, {"x": 6, "z": -2}]


def by_turns(parts, x, many, names):
    """The total, worked out by turns; x is the turn's number in parts alone."""
    turns = worth_by_hand(many, names)
    assert turns.denominator == 1 and turns >= 0
    return sum((worth_by_hand(parts, {**names, x: at}) for at in range(int(turns))), Fraction(0))


def power_of(name, power):
    return Sum({((name, power),): (1, 1)})


class Totalled(unittest.TestCase):
    def check(self, parts, x, many):
        told = totalled(Sum(parts), x, Sum(many))
        self.assertEqual(faults_of(told), [])
        for names in POINTS:
            self.assertEqual(worth(told, names), as_share(by_turns(parts, x, many, names)), (parts, x, many, names))

    def test_all_by_turns(self):
        for parts in PARTS:
            for many in MANY:
                for x in ("x", "y", "q"):
                    self.check(parts, x, many)

    def test_powers_from_nought_on(self):
        for power in range(9):
            parts = {(("x", power),): (1, 1)} if power else {(): (1, 1)}
            told = totalled(Sum(parts), "x", sum_of_name("n"))
            for turns in range(12):
                wanted = sum(at ** power for at in range(turns))
                self.assertEqual(worth(told, {"n": turns}), (wanted, 1), (power, turns))

    def test_powers_times_another_name(self):
        for power in range(1, 9):
            self.check({(("x", power), ("y", 2)): (-2, 3), (("x", power),): (1, 1), Y: (1, 2)}, "x", {Y: (1, 1)})

    def test_as_the_document_tells_it(self):
        n = sum_of_name("n")
        totals = [totalled(sum_of_number(1), "x", n)]
        totals.extend(totalled(power_of("x", power), "x", n) for power in range(1, 21))
        for k in range(21):
            together = sum_of_number(0)
            for j in range(k + 1):
                together = added(together, timed(sum_of_number(comb(k + 1, j)), totals[j]))
            self.assertTrue(same(together, power_of("n", k + 1)), k)

    def test_written_out(self):
        n = sum_of_name("n")
        self.assertEqual(totalled(sum_of_number(1), "x", n).parts, {(("n", 1),): (1, 1)})
        self.assertEqual(totalled(sum_of_name("x"), "x", n).parts, {(("n", 2),): (1, 2), (("n", 1),): (-1, 2)})
        self.assertEqual(totalled(Sum({XX: (1, 1)}), "x", n).parts,
                         {(("n", 3),): (1, 3), (("n", 2),): (-1, 2), (("n", 1),): (1, 6)})
        self.assertEqual(totalled(Sum({XY: (2, 1)}), "x", sum_of_number(4)).parts, {Y: (12, 1)})

    def test_many_a_number(self):
        one = Sum({XX: (1, 1), XY: (1, 1), (): (7, 2)})
        self.assertEqual(totalled(one, "x", sum_of_number(0)).parts, {})
        self.assertEqual(totalled(one, "x", sum_of_number(1)).parts, {(): (7, 2)})
        self.assertEqual(totalled(one, "x", sum_of_number(2)).parts, {(): (8, 1), Y: (1, 1)})
        self.assertEqual(totalled(power_of("x", 3), "x", sum_of_number(1)).parts, {})

    def test_without_the_name(self):
        y, z = sum_of_name("y"), sum_of_name("z")
        self.assertEqual(totalled(y, "x", z).parts, {(("y", 1), ("z", 1)): (1, 1)})
        self.assertEqual(totalled(sum_of_number(3), "x", sum_of_number(5)).parts, {(): (15, 1)})
        for one in all_sums():
            self.assertTrue(same(totalled(one, "q", z), timed(one, z)))

    def test_without_parts(self):
        for many in MANY:
            self.assertEqual(totalled(sum_of_number(0), "x", Sum(many)).parts, {})

    def test_the_same_name_in_both(self):
        x = sum_of_name("x")
        self.assertEqual(totalled(x, "x", x).parts, {XX: (1, 2), X: (-1, 2)})
        self.assertEqual(totalled(x, "x", added(x, sum_of_number(1))).parts, {XX: (1, 2), X: (1, 2)})
        told = totalled(added(x, sum_of_name("y")), "x", x)
        self.assertEqual(names_in(told), ["x", "y"])
        self.assertEqual(worth(told, {"x": 4, "y": 10}), (46, 1))

    def test_the_name_is_gone_where_many_does_not_have_it(self):
        for one in all_sums():
            self.assertNotIn("x", names_in(totalled(one, "x", sum_of_name("n"))))

    def test_one_turn_more(self):
        n = sum_of_name("n")
        for one in all_sums():
            more = totalled(one, "x", added(n, sum_of_number(1)))
            last = Sum({tuple(sorted(("n" if name == "x" else name, power) for name, power in product)): part
                        for product, part in one.parts.items()})
            self.assertTrue(same(lessened(more, totalled(one, "x", n)), last))

    def test_nothing_handed_in_is_changed(self):
        for parts in PARTS:
            for many_parts in MANY:
                one, many = Sum(parts), Sum(many_parts)
                totalled(one, "x", many)
                totalled(one, "x", one)
                self.assertEqual((one.parts, many.parts), (parts, many_parts))

    def test_what_is_given_back_may_be_changed(self):
        for parts in PARTS:
            for many_parts in MANY:
                one, many = Sum(parts), Sum(many_parts)
                told = totalled(one, "x", many)
                kept = dict(told.parts)
                told.parts[(("k", 9),)] = (1, 1)
                told.parts.pop((), None)
                self.assertEqual((one.parts, many.parts), (parts, many_parts))
                self.assertEqual(totalled(one, "x", many).parts, kept)


if __name__ == "__main__":
    unittest.main()
