"""lapfold.sums.put_in: all names of a dict at once by their Sums."""

import unittest
from fractions import Fraction

from lapfold.sums import Sum, added, put_in, same, sum_of_name, sum_of_number, timed, worth
from sum_helps import PARTS, POINTS, X, XX, XY, Y, all_sums, as_share, faults_of, worth_by_hand

HALVES = {X: (1, 2), Y: (-3, 2), (): (5, 1)}

FILLINGS = (
    {},
    {"x": {}},
    {"x": {(): (3, 1)}},
    {"x": {X: (1, 1)}},
    {"x": {Y: (1, 1)}, "y": {X: (1, 1)}},
    {"x": HALVES, "z": {XY: (2, 1), (): (-1, 1)}},
    {"x": {(("x", 2),): (1, 1)}, "y": {X: (1, 1), Y: (1, 1)}, "z": {(): (-1, 3)}},
    {"other": HALVES},
)


def filling_of(row):
    return {name: Sum(parts) for name, parts in row.items()}


def parts_of(filling):
    return {name: told.parts for name, told in filling.items()}


class PutIn(unittest.TestCase):
    def test_worth_of_what_is_put_in(self):
        for one in all_sums():
            for row in FILLINGS:
                told = put_in(one, filling_of(row))
                self.assertEqual(faults_of(told), [])
                for names in POINTS:
                    within = {name: Fraction(number) for name, number in names.items()}
                    within.update({name: worth_by_hand(parts, names) for name, parts in row.items()})
                    wanted = worth_by_hand(one.parts, within)
                    self.assertEqual(worth(told, names), as_share(wanted))

    def test_two_names_one_for_the_other(self):
        one = Sum({(("x", 2), ("y", 1)): (1, 1), Y: (4, 1)})
        told = put_in(one, {"x": sum_of_name("y"), "y": sum_of_name("x")})
        self.assertEqual(told.parts, {(("x", 1), ("y", 2)): (1, 1), X: (4, 1)})

    def test_what_is_put_in_is_not_filled_again(self):
        told = put_in(sum_of_name("x"), {"x": sum_of_name("y"), "y": sum_of_name("z")})
        self.assertEqual(told.parts, {Y: (1, 1)})

    def test_for_itself(self):
        for one in all_sums():
            self.assertTrue(same(put_in(one, {"x": sum_of_name("x")}), one))
        more = put_in(Sum({XX: (1, 1)}), {"x": added(sum_of_name("x"), sum_of_number(1))})
        self.assertEqual(more.parts, {XX: (1, 1), X: (2, 1), (): (1, 1)})

    def test_a_number(self):
        one = Sum({XX: (1, 2), XY: (1, 1), Y: (1, 1)})
        self.assertEqual(put_in(one, {"x": sum_of_number(4)}).parts, {(): (8, 1), Y: (5, 1)})
        self.assertEqual(put_in(one, {"x": sum_of_number(0)}).parts, {Y: (1, 1)})
        self.assertEqual(put_in(one, {"x": sum_of_number(-1)}).parts, {(): (1, 2)})
        self.assertEqual(put_in(one, {"x": sum_of_number(0), "y": sum_of_number(0)}).parts, {})

    def test_names_that_the_sum_does_not_have(self):
        for one in all_sums():
            told = put_in(one, {"k": sum_of_number(3), "other": sum_of_name("x")})
            self.assertTrue(same(told, one))

    def test_powers_above_one(self):
        told = put_in(Sum({(("x", 3),): (1, 1)}), {"x": added(sum_of_name("y"), sum_of_number(2))})
        self.assertEqual(told.parts, {(("y", 3),): (1, 1), (("y", 2),): (6, 1), Y: (12, 1), (): (8, 1)})
        high = put_in(Sum({(("x", 9),): (1, 1), XX: (1, 1)}), {"x": timed(sum_of_name("x"), sum_of_name("x"))})
        self.assertEqual(high.parts, {(("x", 18),): (1, 1), (("x", 4),): (1, 1)})

    def test_parts_that_meet_are_one(self):
        told = put_in(Sum({X: (1, 2), Y: (1, 6)}), {"x": sum_of_name("y")})
        self.assertEqual(told.parts, {Y: (2, 3)})

    def test_parts_that_cancel(self):
        told = put_in(Sum({X: (1, 1), Y: (-1, 1)}), {"x": sum_of_name("y")})
        self.assertEqual(told.parts, {})

    def test_an_empty_dict(self):
        for one in all_sums():
            told = put_in(one, {})
            self.assertTrue(same(told, one))
            self.assertIsNot(told, one)

    def test_nothing_handed_in_is_changed(self):
        for parts in PARTS:
            for row in FILLINGS:
                one, filling = Sum(parts), filling_of(row)
                put_in(one, filling)
                self.assertEqual(one.parts, parts)
                self.assertEqual(parts_of(filling), row)
                self.assertEqual(list(filling), list(row))

    def test_what_is_given_back_may_be_changed(self):
        for parts in PARTS + ({X: (1, 1)},):
            for row in FILLINGS:
                one, filling = Sum(parts), filling_of(row)
                told = put_in(one, filling)
                kept = dict(told.parts)
                told.parts[(("k", 9),)] = (1, 1)
                told.parts.pop((), None)
                self.assertEqual((one.parts, parts_of(filling)), (parts, row))
                self.assertEqual(put_in(one, filling).parts, kept)

    def test_stays_when_the_filling_is_changed_behind_it(self):
        filling = {"x": sum_of_name("y")}
        told = put_in(sum_of_name("x"), filling)
        filling["x"].parts[X] = (7, 1)
        del filling["x"]
        self.assertEqual(told.parts, {Y: (1, 1)})


if __name__ == "__main__":
    unittest.main()
