"""lapfold.folds: programs written as folds, and what folds tell."""

import copy
import unittest

from lapfold.errors import BadForm, Dry, LapError, NeedntFall
from lapfold.folds import value, written
from lapfold.forms import names_of
from lapfold.plain import ran
from program_helps import BROKEN, Chances, add, grow, lap, lapped_row, points, put, row, say, times, within

FOLD_WORDS = {
    "num": 2, "slot": 2, "add": 3, "times": 3, "less": 2, "none": 1, "more": 3, "tuple": 2, "where": 4, "with": 3,
    "fold": 4,
}


def num(n):
    return ("num", n)


def slot(k):
    return ("slot", k)


def tuple_of(*parts):
    return ("tuple", parts)


def slots(many):
    return tuple_of(*[slot(k) for k in range(many)])


def plus(one, other):
    return ("add", one, other)


def less(one):
    return ("less", one)


class Written(unittest.TestCase):
    def check(self, program, fold):
        for _ in range(2):
            self.assertEqual(written(program), fold)

    def test_without_statements(self):
        self.check(row(), tuple_of(slot(0)))

    def test_a_set(self):
        self.check(row(put("a", 5)), tuple_of(num(5), slot(1)))
        self.check(row(put("a", "a")), tuple_of(slot(0), slot(1)))
        self.check(row(put("b", "a")), tuple_of(slot(0), slot(0), slot(2)))
        self.check(row(put("a", "b")), tuple_of(slot(1), slot(1), slot(2)))
        self.check(row(put("b", add("c", times("a", 7)))),
                   tuple_of(slot(0), plus(slot(2), ("times", slot(0), num(7))), slot(2), slot(3)))

    def test_a_say(self):
        self.check(row(say(5)), tuple_of(("more", slot(0), num(5))))
        self.check(row(say("a")), tuple_of(slot(0), ("more", slot(1), slot(0))))
        self.check(row(say(add("b", "a"))), tuple_of(slot(0), slot(1), ("more", slot(2), plus(slot(1), slot(0)))))

    def test_a_lap(self):
        turn = ("with", tuple_of(less(slot(0)), slot(1)), slots(2))
        self.check(row(lap("n", measure="n")), ("fold", slot(0), slots(2), ("where", slot(0), turn, slots(2))))

    def test_a_lap_with_another_measure(self):
        said = tuple_of(slot(0), slot(1), ("more", slot(2), slot(0)))
        turn = ("with", tuple_of(slot(0), less(slot(1)), slot(2)), said)
        self.check(row(lap("n", say("m"), measure=add(times("n", 3), "m"))),
                   ("fold", plus(("times", slot(1), num(3)), slot(0)), slots(3), ("where", slot(1), turn, slots(3))))

    def test_two_statements(self):
        first, second = tuple_of(num(1), slot(1)), tuple_of(slot(0), ("more", slot(1), slot(0)))
        self.check(row(put("a", 1), say("a")), ("with", first, second))
        self.check(row(say("a"), put("a", 1)), ("with", second, first))

    def test_three_statements(self):
        first = tuple_of(slot(1), slot(1), slot(2))
        second = tuple_of(slot(0), slot(1), ("more", slot(2), slot(0)))
        third = tuple_of(slot(0), num(0), slot(2))
        self.check(row(put("a", "b"), say("a"), put("b", 0)), ("with", first, ("with", second, third)))
        self.check(row(put("b", 0), put("a", "b"), say("a")), ("with", third, ("with", first, second)))

    def test_a_lap_behind_and_ahead_of_others(self):
        turn = ("with", tuple_of(less(slot(0)), slot(1)), slots(2))
        one = ("fold", slot(0), slots(2), ("where", slot(0), turn, slots(2)))
        said = tuple_of(slot(0), ("more", slot(1), slot(0)))
        self.check(row(say("n"), lap("n", measure="n")), ("with", said, one))
        self.check(row(lap("n", measure="n"), say("n")), ("with", one, said))

    def test_laps_within_laps(self):
        inner_turn = ("with", tuple_of(less(slot(0)), slot(1), slot(2), slot(3)),
                      tuple_of(slot(0), slot(1), plus(slot(2), num(1)), slot(3)))
        inner = ("fold", slot(0), slots(4), ("where", slot(0), inner_turn, slots(4)))
        in_row = ("with", tuple_of(slot(1), slot(1), slot(2), slot(3)), inner)
        turn = ("with", tuple_of(slot(0), less(slot(1)), slot(2), slot(3)), in_row)
        self.check(row(lap("n", put("i", "n"), lap("i", grow("y", 1), measure="i"), measure="n")),
                   ("fold", slot(1), slots(4), ("where", slot(1), turn, slots(4))))

    def test_slots_are_the_names_rising(self):
        self.check(row(say("z"), put("ab", "aa")),
                   ("with", tuple_of(slot(0), slot(1), slot(2), ("more", slot(3), slot(2))),
                    tuple_of(slot(0), slot(0), slot(2), slot(3))))

    def test_no_laps_and_no_other_words(self):
        for seed in range(300):
            program = lapped_row(Chances(seed), "abc", "nij", 4)
            try:
                self.check_words(written(program))
            except NeedntFall:
                continue

    def check_words(self, fold):
        self.assertIs(fold.__class__, tuple)
        self.assertEqual(len(fold), FOLD_WORDS[fold[0]])
        if fold[0] in ("num", "slot"):
            self.assertIs(fold[1].__class__, int)
        else:
            for part in fold[1] if fold[0] == "tuple" else fold[1:]:
                self.check_words(part)

    def test_as_many_statements_as_may_be(self):
        program = row(*[grow("a", 1)] * 40)
        fold = written(program)
        for _ in range(39):
            self.assertEqual(fold[:2], ("with", tuple_of(plus(slot(0), num(1)), slot(1))))
            fold = fold[2]
        self.assertEqual(fold, tuple_of(plus(slot(0), num(1)), slot(1)))
        self.assertEqual(value(written(program), (2, [])), (42, []))

    def test_the_program_is_not_changed(self):
        program = row(lap("n", put("i", "n"), lap("i", say("i"), measure="i"), measure="n"))
        kept = copy.deepcopy(program)
        written(program)
        self.assertEqual(program, kept)


class Refusals(unittest.TestCase):
    def test_what_is_no_program(self):
        for thing in BROKEN:
            with self.assertRaises(LapError) as caught:
                written(thing)
            self.assertIs(caught.exception.__class__, BadForm, thing)

    def test_what_need_not_fall(self):
        needs_not = lap("n", measure=1)
        for place, program in (
            ((0,), row(needs_not)),
            ((1,), row(say(1), needs_not, needs_not)),
            ((0, 1), row(lap("m", say(1), needs_not, measure="m"), needs_not)),
            ((0,), row(lap("m", needs_not, measure=0))),
        ):
            for _ in range(2):
                with self.assertRaises(LapError) as caught:
                    written(program)
                self.assertIs(caught.exception.__class__, NeedntFall)
                self.assertEqual(caught.exception.place, place)

    def test_form_ahead_of_falling(self):
        self.assertRaises(BadForm, written, row(lap("n", measure=1), put("A", 1)))


class Value(unittest.TestCase):
    def check(self, fold, handed, wanted):
        kept = copy.deepcopy(handed)
        for _ in range(2):
            told = value(fold, handed)
            self.assertEqual(told, wanted)
            self.assertIs(told.__class__, wanted.__class__)
            self.assertEqual(handed, kept)

    def test_num_and_slot(self):
        self.check(num(0), (), 0)
        self.check(num(999), (1, 2), 999)
        self.check(slot(0), (5, 6), 5)
        self.check(slot(1), (5, 6), 6)
        self.check(slot(2), (5, 6, [7, 8]), [7, 8])
        self.check(slot(0), ((1, [2]),), (1, [2]))

    def test_add_and_times(self):
        self.check(plus(num(2), slot(0)), (5,), 7)
        self.check(("times", num(2), slot(0)), (5,), 10)
        self.check(("times", plus(slot(0), slot(1)), plus(slot(1), num(1))), (10 ** 24, 3), 4 * 10 ** 24 + 12)
        self.check(("times", num(0), slot(0)), (5,), 0)

    def test_less(self):
        for n, wanted in ((0, 0), (1, 0), (2, 1), (10 ** 24, 10 ** 24 - 1)):
            self.check(less(slot(0)), (n,), wanted)
        self.check(less(less(num(1))), (), 0)
        self.check(less(plus(slot(0), num(3))), (0,), 2)

    def test_none_and_more(self):
        self.check(("none",), (), [])
        self.check(("more", ("none",), num(4)), (), [4])
        self.check(("more", ("more", ("none",), num(4)), slot(0)), (6,), [4, 6])
        self.check(("more", slot(0), num(4)), ([1, 2],), [1, 2, 4])

    def test_rows_of_rows_and_tuples(self):
        self.check(("more", ("none",), ("none",)), (), [[]])
        self.check(("more", slot(0), slot(0)), ([1],), [1, [1]])
        self.check(("more", ("none",), tuple_of(num(1), ("none",))), (), [(1, [])])

    def test_more_upon_a_row_in_a_slot(self):
        handed = [1, 2]
        twice = tuple_of(("more", slot(0), num(3)), ("more", slot(0), num(4)), slot(0))
        self.check(twice, (handed,), ([1, 2, 3], [1, 2, 4], [1, 2]))
        self.assertEqual(handed, [1, 2])
        grown = tuple_of(("more", slot(0), num(3)), slot(0))
        behind = tuple_of(("more", slot(0), num(5)), slot(0), slot(1))
        self.check(("with", grown, behind), (handed,), ([1, 2, 3, 5], [1, 2, 3], [1, 2]))
        self.assertEqual(handed, [1, 2])

    def test_tuple(self):
        self.check(tuple_of(), (1,), ())
        self.check(tuple_of(num(3)), (), (3,))
        self.check(tuple_of(slot(1), slot(0), ("none",)), (5, 6), (6, 5, []))
        self.check(tuple_of(tuple_of(slot(0)), slot(0)), (5,), ((5,), 5))

    def test_where(self):
        fold = ("where", slot(0), slot(1), slot(2))
        self.check(fold, (0, 5, 6), 6)
        for n in (1, 2, 10 ** 24):
            self.check(fold, (n, 5, 6), 5)
        self.check(("where", less(slot(0)), num(1), num(2)), (1,), 2)
        self.check(("where", num(1), ("none",), num(2)), (), [])
        self.check(("where", num(0), num(1), tuple_of(num(2))), (), (2,))
        self.check(("where", slot(0), ("where", slot(1), num(1), num(2)), num(3)), (1, 0), 2)

    def test_with(self):
        self.check(("with", tuple_of(slot(1), slot(0)), slot(0)), (5, 6), 6)
        self.check(("with", tuple_of(num(9)), slot(0)), (5,), 9)
        self.check(("with", slot(0), plus(slot(0), slot(1))), ((3, 4),), 7)
        self.check(("with", tuple_of(), num(3)), (5,), 3)

    def test_with_only_where_it_stands(self):
        self.check(tuple_of(("with", tuple_of(num(9)), slot(0)), slot(0)), (5,), (9, 5))
        self.check(plus(("with", tuple_of(num(9)), slot(0)), slot(0)), (5,), 14)
        self.check(("where", ("with", tuple_of(num(0)), slot(0)), num(1), slot(0)), (5,), 5)

    def test_fold(self):
        fold = ("fold", slot(0), tuple_of(slot(1)), tuple_of(plus(slot(0), num(2))))
        for many in (0, 1, 2, 30):
            self.check(fold, (many, 7), (7 + 2 * many,))

    def test_a_fold_of_nought_turns(self):
        self.check(("fold", num(0), tuple_of(slot(0), ("none",)), tuple_of(num(1), num(2))), (5,), (5, []))
        self.check(("fold", num(0), slot(0), slot(99)), ((1, 2),), (1, 2))

    def test_a_fold_makes_a_row(self):
        one_more = tuple_of(plus(slot(0), num(1)), ("more", slot(1), slot(0)))
        self.check(("fold", num(4), tuple_of(num(0), ("none",)), one_more), (), (4, [0, 1, 2, 3]))

    def test_how_often_is_told_once_ahead(self):
        fold = ("fold", slot(0), tuple_of(slot(0)), tuple_of(plus(slot(0), slot(0))))
        self.check(fold, (3,), (24,))

    def test_a_fold_that_comes_back_to_what_it_was(self):
        fold = ("fold", slot(0), tuple_of(num(1), num(2)), tuple_of(slot(1), slot(0)))
        self.check(fold, (7,), (2, 1))
        self.check(fold, (8,), (1, 2))

    def test_a_fold_that_changes_nothing_any_more(self):
        fold = ("fold", slot(0), tuple_of(num(5), ("none",)), tuple_of(less(slot(0)), slot(1)))
        for many, wanted in ((4, 1), (5, 0), (6, 0), (10 ** 24, 0)):
            self.check(fold, (many,), (wanted, []))

    def test_with_and_fold_within_one_another(self):
        inner = ("fold", slot(1), tuple_of(slot(0), num(1)), tuple_of(plus(slot(0), slot(1)), slot(1)))
        self.check(("with", tuple_of(num(10), slot(0)), inner), (3,), (13, 1))
        within_a_fold = ("fold", num(2), slots(2), ("with", tuple_of(plus(slot(1), num(1)), slot(0)), slots(2)))
        self.check(within_a_fold, (5, 6, 7), (6, 7))
        twice = ("fold", num(3), tuple_of(num(0), slot(0)),
                 ("fold", slot(1), tuple_of(slot(0), slot(1)), tuple_of(plus(slot(0), num(1)), slot(1))))
        self.check(twice, (4,), (12, 4))
        by_another = ("fold", ("with", tuple_of(num(2)), slot(0)), ("with", tuple_of(num(3)), tuple_of(slot(0))),
                      tuple_of(("times", slot(0), num(10))))
        self.check(by_another, (7,), (300,))

    def test_as_long_as_rows_somewhat_beyond_the_limit(self):
        fold = slots(2)
        for _ in range(300):
            fold = ("with", tuple_of(plus(slot(0), num(1)), ("more", slot(1), slot(0))), fold)
        self.check(fold, (0, []), (300, list(range(300))))


class GivenBack(unittest.TestCase):
    def test_it_may_be_changed(self):
        handed = ([1, [2]], ([3],), 4)
        kept = copy.deepcopy(handed)
        told = value(slots(3), handed)
        told[0].append(9)
        told[0][1].append(9)
        told[1][0].append(9)
        self.assertEqual(handed, kept)
        self.assertEqual(value(slots(3), handed), kept)
        row_told = value(slot(0), handed)
        row_told.clear()
        row_told = value(("more", slot(0), num(1)), handed)
        row_told[1].append(7)
        self.assertEqual(handed, kept)

    def test_no_list_is_in_it_twice(self):
        told = value(tuple_of(slot(0), slot(0), ("more", ("none",), slot(0))), ([1],))
        told[0].append(2)
        self.assertEqual(told, ([1, 2], [1], [[1]]))

    def test_what_was_handed_in_may_be_changed(self):
        handed = [1]
        told = value(slots(1), (handed,))
        handed.append(2)
        self.assertEqual(told, ([1],))

    def test_a_turn_that_changes_nothing(self):
        handed = ([1],)
        told = value(("fold", num(3), slots(1), slots(1)), handed)
        told[0].append(2)
        self.assertEqual(handed, ([1],))


class AgainstRuns(unittest.TestCase):
    def check(self, program, at, most=100000):
        told, names, _, _ = ran(program, at, most)
        rising = names_of(program)
        handed = tuple(at.get(x, 0) for x in rising) + ([],)
        self.assertEqual(value(written(program), handed), tuple(names[x] for x in rising) + (told,), (program, at))

    def test_some(self):
        for program in (
            row(), row(put("a", add("b", 1)), say("a")), row(lap("n", measure="n")),
            row(lap("n", say("n"), grow("y", "n"), measure=times("n", 3)), say("y")),
            row(lap("n", put("i", "n"), lap("i", grow("y", 1), say("y"), measure="i"), measure="n"), say(7)),
            row(lap("n", grow("n", "m"), put("m", 0), say("n"), measure=add("n", "m"))),
            row(lap("n", put("n", 0), say("n"), measure="n")),
            row(lap("m", lap("n", measure="n"), put("k", "m"), measure="m")),
            within(3, say("i"), grow("y", "j")),
        ):
            for at in points(names_of(program), (0, 1, 2, 4)):
                self.check(program, at)

    def test_a_measure_far_above_the_turns(self):
        self.check(row(lap("n", grow("y", "n"), say("y"), measure=times("n", times("n", 999)))), {"n": 10 ** 2})
        huge = row(lap("n", say("n"), measure=add("n", "m")))
        self.check(huge, {"n": 5, "m": 10 ** 24})

    def test_many_programs(self):
        let_by = turns_in_all = 0
        for seed in range(400):
            chances = Chances(seed)
            program = lapped_row(chances, "abc", "nij", 4)
            try:
                written(program)
            except NeedntFall:
                continue
            let_by += 1
            for _ in range(4):
                at = {x: chances.below(4) for x in names_of(program)}
                try:
                    turns_in_all += ran(program, at, 150)[2]
                except Dry:
                    continue
                self.check(program, at)
        self.assertGreater(let_by, 100)
        self.assertGreater(turns_in_all, 1000)


if __name__ == "__main__":
    unittest.main()
