"""lapfold.sums: the class Sum, how sums are made, added, lessened, timed and asked."""

import copy
import unittest

from lapfold.sums import Sum, added, is_natural, lessened, names_in, same
from lapfold.sums import sum_of_name, sum_of_number, timed, worth
from sum_helps import PARTS, POINTS, X, XX, XY, Y, all_sums, as_share, faults_of, worth_by_hand


class Made(unittest.TestCase):
    def test_parts_are_what_was_handed_in(self):
        for parts in PARTS:
            told = Sum(parts)
            self.assertEqual(told.parts, parts)
            self.assertIs(told.parts.__class__, dict)

    def test_parts_are_a_copy(self):
        for parts in PARTS:
            handed = dict(parts)
            told = Sum(handed)
            handed[(("k", 5),)] = (9, 1)
            handed.pop((), None)
            self.assertEqual(told.parts, parts)

    def test_changing_the_parts_leaves_the_dict_and_other_sums(self):
        handed = {X: (1, 1)}
        one = Sum(handed)
        other = Sum(handed)
        one.parts[Y] = (1, 1)
        self.assertEqual(handed, {X: (1, 1)})
        self.assertEqual(other.parts, {X: (1, 1)})

    def test_number(self):
        self.assertEqual(sum_of_number(0).parts, {})
        self.assertEqual(sum_of_number(1).parts, {(): (1, 1)})
        self.assertEqual(sum_of_number(999).parts, {(): (999, 1)})
        self.assertEqual(sum_of_number(-5).parts, {(): (-5, 1)})
        self.assertEqual(sum_of_number(10 ** 40).parts, {(): (10 ** 40, 1)})
        self.assertEqual(faults_of(sum_of_number(3)), [])

    def test_name(self):
        self.assertEqual(sum_of_name("x").parts, {(("x", 1),): (1, 1)})
        self.assertEqual(sum_of_name("abcdefgh").parts, {(("abcdefgh", 1),): (1, 1)})
        self.assertEqual(faults_of(sum_of_name("x")), [])

    def test_made_again(self):
        sum_of_number(4).parts.clear()
        sum_of_name("x").parts.clear()
        self.assertEqual(sum_of_number(4).parts, {(): (4, 1)})
        self.assertEqual(sum_of_name("x").parts, {X: (1, 1)})


class Reckoned(unittest.TestCase):
    def check(self, reckon, by_hand):
        for one in all_sums():
            for other in all_sums():
                told = reckon(one, other)
                self.assertEqual(faults_of(told), [])
                for names in POINTS:
                    wanted = by_hand(worth_by_hand(one.parts, names), worth_by_hand(other.parts, names))
                    self.assertEqual(worth(told, names), as_share(wanted))

    def test_added(self):
        self.check(added, lambda one, other: one + other)

    def test_lessened(self):
        self.check(lessened, lambda one, other: one - other)

    def test_timed(self):
        self.check(timed, lambda one, other: one * other)

    def test_written_out(self):
        x, y = sum_of_name("x"), sum_of_name("y")
        self.assertEqual(added(x, x).parts, {X: (2, 1)})
        self.assertEqual(added(Sum({X: (1, 2), Y: (1, 1)}), Sum({X: (1, 6)})).parts, {X: (2, 3), Y: (1, 1)})
        self.assertEqual(lessened(x, y).parts, {X: (1, 1), Y: (-1, 1)})
        self.assertEqual(lessened(sum_of_number(0), x).parts, {X: (-1, 1)})
        self.assertEqual(timed(y, x).parts, {XY: (1, 1)})
        self.assertEqual(timed(x, Sum({X: (2, 3), (): (-1, 2)})).parts, {XX: (2, 3), X: (-1, 2)})
        self.assertEqual(timed(timed(y, x), timed(x, sum_of_name("b"))).parts,
                         {(("b", 1), ("x", 2), ("y", 1)): (1, 1)})

    def test_what_cancels_has_no_parts(self):
        for one in all_sums():
            less = Sum({product: (-top, bottom) for product, (top, bottom) in one.parts.items()})
            self.assertEqual(added(one, less).parts, {})
            self.assertEqual(lessened(one, one).parts, {})
            self.assertEqual(timed(one, sum_of_number(0)).parts, {})
            self.assertEqual(timed(sum_of_number(0), one).parts, {})

    def test_one_part_cancels_in_a_product(self):
        x, y = sum_of_name("x"), sum_of_name("y")
        self.assertEqual(timed(added(x, y), lessened(x, y)).parts, {XX: (1, 1), (("y", 2),): (-1, 1)})

    def test_nothing_handed_in_is_changed(self):
        for reckon in (added, lessened, timed):
            for parts in PARTS:
                for other_parts in PARTS:
                    one, other = Sum(parts), Sum(other_parts)
                    reckon(one, other)
                    reckon(one, one)
                    self.assertEqual(one.parts, parts)
                    self.assertEqual(other.parts, other_parts)

    def test_what_is_given_back_may_be_changed(self):
        for reckon in (added, lessened, timed):
            for parts in PARTS:
                for other_parts in ({}, {(): (1, 1)}, {X: (1, 1)}):
                    one, other = Sum(parts), Sum(other_parts)
                    first = reckon(one, other)
                    kept = copy.deepcopy(first.parts)
                    first.parts[(("k", 9),)] = (1, 1)
                    first.parts.pop((), None)
                    self.assertEqual(one.parts, parts)
                    self.assertEqual(other.parts, other_parts)
                    self.assertEqual(reckon(one, other).parts, kept)


class Worth(unittest.TestCase):
    def test_at_several_points(self):
        for one in all_sums():
            for names in POINTS:
                self.assertEqual(worth(one, names), as_share(worth_by_hand(one.parts, names)))

    def test_written_out(self):
        one = Sum({XX: (1, 2), X: (-1, 2), (): (3, 1)})
        self.assertEqual(worth(one, {"x": 4}), (9, 1))
        self.assertEqual(worth(one, {"x": -3}), (9, 1))
        self.assertEqual(worth(Sum({Y: (1, 6), (): (1, 3)}), {"y": 1}), (1, 2))

    def test_other_names_are_nought(self):
        self.assertEqual(worth(sum_of_name("x"), {}), (0, 1))
        self.assertEqual(worth(sum_of_name("x"), {"y": 4}), (0, 1))
        self.assertEqual(worth(Sum({XY: (2, 1), (): (5, 2)}), {"x": 8}), (5, 2))

    def test_no_parts(self):
        self.assertEqual(worth(sum_of_number(0), {"x": 3}), (0, 1))

    def test_nothing_handed_in_is_changed(self):
        for parts in PARTS:
            for point in POINTS:
                one, names = Sum(parts), dict(point)
                first = worth(one, names)
                self.assertEqual((one.parts, names), (parts, point))
                self.assertEqual(worth(one, names), first)


class Asked(unittest.TestCase):
    def test_natural(self):
        self.assertIs(is_natural(sum_of_number(0)), True)
        self.assertIs(is_natural(sum_of_number(3)), True)
        self.assertIs(is_natural(sum_of_number(-3)), False)
        self.assertIs(is_natural(Sum({X: (1, 7), XY: (5, 1), (): (1, 1)})), True)
        self.assertIs(is_natural(Sum({X: (1, 7), XY: (-1, 5), (): (1, 1)})), False)
        self.assertIs(is_natural(Sum({X: (1, 7), (): (-1, 9)})), False)

    def test_same(self):
        for at, one in enumerate(all_sums()):
            for other_at, other in enumerate(all_sums()):
                self.assertIs(same(one, other), at == other_at)

    def test_same_where_the_order_of_the_parts_differs(self):
        one = Sum({X: (1, 2), Y: (3, 1), (): (1, 1)})
        self.assertIs(same(one, Sum({(): (1, 1), Y: (3, 1), X: (1, 2)})), True)

    def test_not_the_same(self):
        one = Sum({X: (1, 2), Y: (3, 1)})
        self.assertIs(same(one, Sum({X: (1, 2)})), False)
        self.assertIs(same(Sum({X: (1, 2)}), one), False)
        self.assertIs(same(one, Sum({X: (1, 2), Y: (-3, 1)})), False)
        self.assertIs(same(one, Sum({X: (1, 2), (("y", 2),): (3, 1)})), False)

    def test_the_same_told_on_two_ways(self):
        x, y = sum_of_name("x"), sum_of_name("y")
        square = timed(added(x, y), added(x, y))
        twice = timed(sum_of_number(2), timed(y, x))
        self.assertIs(same(square, added(timed(y, y), added(twice, timed(x, x)))), True)

    def test_names_in(self):
        self.assertEqual(names_in(sum_of_number(0)), [])
        self.assertEqual(names_in(sum_of_number(8)), [])
        self.assertEqual(names_in(sum_of_name("k")), ["k"])
        many = Sum({(("b", 1), ("zz", 2)): (1, 1), (("b", 2),): (1, 1), (("aa", 3), ("c", 1)): (-1, 2)})
        self.assertEqual(names_in(many), ["aa", "b", "c", "zz"])
        self.assertIs(names_in(many).__class__, list)

    def test_names_in_may_be_changed(self):
        one = Sum({XY: (1, 1)})
        told = names_in(one)
        told.append("k")
        told[0] = "q"
        self.assertEqual(names_in(one), ["x", "y"])
        self.assertEqual(one.parts, {XY: (1, 1)})

    def test_nothing_handed_in_is_changed(self):
        for parts in PARTS:
            one, other = Sum(parts), Sum(parts)
            is_natural(one), same(one, other), names_in(one)
            self.assertEqual((one.parts, other.parts), (parts, parts))


if __name__ == "__main__":
    unittest.main()
