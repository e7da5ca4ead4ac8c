"""lapfold.falls: whether the measure of each lap is shown to fall."""

import unittest

from lapfold.changes import done_by
from lapfold.errors import BadForm, Dry, LapError, NeedntFall, Uneven
from lapfold.falls import looked
from lapfold.forms import names_of, sum_told
from lapfold.plain import ran
from lapfold.sums import same, sum_of_name
from program_helps import BROKEN, Chances, add, deep, grow, lap, lapped_row, points, put, row, say, times, within


class LookTest(unittest.TestCase):
    def good(self, *statements):
        program = row(*statements)
        for _ in range(2):
            self.assertIsNone(looked(program), program)

    def bad(self, place, *statements):
        for _ in range(2):
            with self.assertRaises(LapError) as caught:
                looked(row(*statements))
            self.assertIs(caught.exception.__class__, NeedntFall, statements)
            self.assertIs(caught.exception.place.__class__, tuple)
            self.assertEqual(caught.exception.place, place, statements)


class Measures(LookTest):
    def test_no_laps(self):
        self.good()
        self.good(put("a", 1), say("a"), grow("a", "b"))

    def test_the_guard(self):
        self.good(lap("n", measure="n"))
        self.good(lap("n", grow("y", "n"), say("y"), measure="n"))
        self.good(lap("n", put("n", "n"), measure="n"))

    def test_the_guard_and_a_number(self):
        self.good(lap("n", measure=add("n", 7)))
        self.good(lap("n", measure=add(999, "n")))
        self.good(lap("n", measure=add(0, "n")))

    def test_a_multiple(self):
        self.good(lap("n", measure=times("n", 3)))
        self.good(lap("n", measure=add("n", "n")))
        self.good(lap("n", measure=times(add("n", 1), 2)))

    def test_the_guard_times_itself(self):
        self.good(lap("n", measure=times("n", "n")))
        self.good(lap("n", measure=times("n", times("n", "n"))))
        self.good(lap("n", measure=deep(5, ("name", "n"))))

    def test_the_guard_and_a_name_that_stays(self):
        self.good(lap("n", grow("y", "m"), measure=add("n", "m")))
        self.good(lap("n", put("q", "m"), put("m", 5), put("m", "q"), measure=add("m", "n")))
        self.good(lap("n", measure=add(times("n", "m"), "n")))
        self.good(lap("n", measure=times("n", add("m", 1))))

    def test_what_does_not_fall(self):
        for measure in (0, 1, 999, "m", add("m", 3), times("m", "m"), times("n", 0), times(0, times("n", "n"))):
            self.bad((0,), lap("n", measure=measure))
            self.bad((1,), put("n", 5), lap("n", grow("y", 1), measure=measure))

    def test_what_needs_another_name_to_be_above_nought(self):
        self.bad((0,), lap("n", measure=times("n", "m")))
        self.bad((0,), lap("n", measure=times("n", times("m", 999))))
        self.bad((1,), put("m", 3), lap("n", measure=times("n", "m")))

    def test_a_guard_that_grows(self):
        self.bad((0,), lap("n", grow("n", 1), measure="n"))
        self.bad((0,), lap("n", grow("n", 2), measure="n"))
        self.bad((0,), lap("n", grow("n", 1), measure=times("n", "n")))
        self.bad((0,), lap("n", grow("n", "m"), measure="n"))
        self.bad((0,), lap("n", grow("n", "m"), measure=add("n", "m")))

    def test_a_guard_that_is_set(self):
        self.bad((0,), lap("n", put("n", "m"), measure="n"))
        self.bad((0,), lap("n", put("n", 3), measure="n"))
        self.good(lap("n", put("n", 0), measure="n"))
        self.bad((0,), lap("n", put("n", 0), measure=3))
        self.bad((0,), lap("n", put("n", times("n", 2)), measure="n"))
        self.bad((0,), lap("n", put("n", times("n", "n")), measure="n"))

    def test_a_name_taken_into_the_guard(self):
        self.good(lap("n", grow("n", "m"), put("m", 0), measure=add("n", "m")))
        self.good(lap("n", grow("n", "m"), put("m", 0), grow("y", 1), measure=add("m", times("n", 1))))
        self.bad((0,), lap("n", grow("n", "m"), put("m", 0), measure="n"))
        self.bad((0,), lap("n", grow("n", "m"), put("m", 1), measure=add("n", "m")))
        self.bad((0,), lap("n", grow("n", times("m", 2)), put("m", 0), measure=add("n", "m")))
        self.good(lap("n", grow("n", times("m", 2)), put("m", 0), measure=add("n", times(2, "m"))))
        self.good(lap("n", put("q", "n"), put("n", "m"), put("m", "q"), measure=add("n", "m")))

    def test_a_name_that_falls_by_being_set(self):
        self.good(lap("n", put("m", 0), measure=add("n", "m")))
        self.good(lap("n", put("m", "k"), put("k", 0), measure=add("n", add("m", "k"))))
        self.bad((0,), lap("n", put("m", "k"), measure=add("n", "m")))

    def test_a_name_that_grows(self):
        self.bad((0,), lap("n", grow("m", 1), measure=add("n", "m")))
        self.good(lap("n", grow("m", 1), measure=add(add("n", "n"), "m")))
        self.bad((0,), lap("n", grow("m", 2), measure=add(add("n", "n"), "m")))
        self.bad((0,), lap("n", grow("m", "k"), measure=add(times("n", 999), "m")))
        self.good(lap("n", grow("m", "n"), measure=add(add(times("n", "n"), "n"), "m")))
        self.bad((0,), lap("n", grow("m", 1), measure=add("n", times("n", "m"))))

    def test_a_sum_that_falls_where_no_share_may_be_below_nought(self):
        """n by n and m: it falls by 2 n and 1, and by m, which grew by n, and is less by that."""
        self.good(lap("n", grow("m", "n"), measure=add(times("n", "n"), "m")))
        self.bad((0,), lap("n", grow("m", times("n", 3)), measure=add(times("n", "n"), "m")))

    def test_the_constant(self):
        for most in range(1, 5):
            for more in range(6):
                check = self.good if more < most else lambda *parts: self.bad((0,), *parts)
                check(lap("n", grow("m", more), measure=add(times("n", most), "m")))


class LapsWithin(LookTest):
    """Measures with a name that a lap within changes."""

    def inner(self, *statements, guard=2):
        return put("i", guard), lap("i", *statements, measure="i")

    def test_grown_by_a_number(self):
        self.good(lap("n", *self.inner(grow("m", 1)), measure=add(times(3, "n"), "m")))
        self.bad((0,), lap("n", *self.inner(grow("m", 1)), measure=add(times(2, "n"), "m")))
        self.good(lap("n", *self.inner(grow("m", 1), guard="k"), measure=add(times("n", add("k", 1)), "m")))
        self.bad((0,), lap("n", *self.inner(grow("m", 1), guard="k"), measure=add(times("n", 9), "m")))

    def test_grown_by_a_name(self):
        self.bad((0,), lap("n", *self.inner(grow("m", "k")), measure=add("n", "m")))
        self.good(lap("n", *self.inner(grow("m", "k")), measure=add(times("n", add(1, add("k", "k"))), "m")))

    def test_grown_by_what_has_shares(self):
        """In a turn m grows by all numbers below n, of which twice is n by n less n."""
        measure = add(times("n", times("n", "n")), times(2, "m"))
        self.good(lap("n", *self.inner(grow("m", "i"), guard="n"), measure=add(measure, "n")))
        self.good(lap("n", *self.inner(grow("m", "i"), guard="n"), measure=measure))
        self.bad((0,), lap("n", *self.inner(grow("m", "i"), guard="n"), measure=add("n", "m")))

    def test_set_anew(self):
        self.good(lap("n", *self.inner(put("m", 0)), measure=add("n", "m")))
        self.good(lap("n", *self.inner(put("m", "k")), put("k", 0), measure=add(add("n", "m"), times("k", 2))))
        self.bad((0,), lap("n", *self.inner(put("m", "n")), measure=add(times("n", 2), "m")))
        self.bad((0,), lap("n", *self.inner(put("m", 1)), measure=add("n", "m")))
        self.bad((0,), lap("n", *self.inner(put("m", "k")), measure=add("n", "m")))

    def test_perhaps_set_anew(self):
        for guard in (0, "k", "n"):
            self.bad((0,), lap("n", *self.inner(put("m", 0), guard=guard), measure=add("n", "m")))
        self.good(lap("n", *self.inner(put("m", 0), guard=add("k", 1)), measure=add("n", "m")))

    def test_blurred(self):
        self.bad((0,), lap("n", *self.inner(grow("m", "m")), measure=add("n", "m")))
        self.bad((0,), lap("n", lap("m", put("m", 0), put("y", 2), measure="m"), measure=add("n", "y")))
        self.bad((0,), lap("n", lap("n", grow("n", 0), put("k", 1), measure="n"), measure=add("n", "k")))
        self.good(lap("n", lap("m", put("m", 0), put("y", 2), measure="m"), measure=add("n", "m")))
        self.good(lap("n", lap("m", put("m", 0), put("y", 2), measure="m"), put("y", 0), measure=add("n", "y")))

    def test_blurred_with_a_part_that_comes_to_nought(self):
        blurs = lap("k", put("y", 2), measure="k")
        self.bad((0,), lap("n", blurs, measure=add("n", times("m", "y"))))
        self.good(lap("n", blurs, put("m", 0), measure=add("n", times("m", "y"))))

    def test_a_guard_that_a_lap_within_sets(self):
        self.good(lap("n", lap("n", measure="n"), measure="n"))
        self.bad((0,), lap("n", *self.inner(grow("n", 1)), measure="n"))
        self.bad((0,), lap("n", *self.inner(put("n", 1), guard="k"), measure="n"))
        self.good(lap("n", *self.inner(put("n", "n"), guard="k"), measure="n"))

    def test_up_to_three(self):
        inmost = lap("c", grow("y", 1), measure="c")
        middle = lap("b", put("c", "b"), inmost, measure="b")
        self.good(lap("a", put("b", "a"), middle, measure="a"))
        self.good(*within(3, grow("y", 1))[1])

    def test_names_from_ahead_of_the_lap_are_no_matter(self):
        """A lap is reckoned by itself: what is known or blurred ahead of it tells nothing of its measure."""
        self.good(lap("k", put("k", 0), put("m", 3), measure="k"), lap("n", measure=add("n", "m")))
        self.good(lap("k", put("n", 3), measure="k"), lap("n", measure="n"))
        self.bad((2,), put("m", 0), put("n", 0), lap("n", grow("m", 1), measure=add("n", "m")))


class Places(LookTest):
    GOOD = lap("n", measure="n")
    BAD = lap("n", measure=1)

    def test_one_in_a_row_ahead_of_those_behind_it(self):
        self.bad((0,), self.BAD, self.BAD)
        self.bad((1,), self.GOOD, self.BAD, self.BAD)
        self.bad((3,), say(1), self.GOOD, put("a", 1), self.BAD, self.BAD)
        self.bad((5,), *[say(1)] * 5, self.BAD)

    def test_a_lap_ahead_of_those_within_it(self):
        self.bad((0,), lap("n", self.BAD, measure=2))
        self.bad((1,), say(1), lap("n", lap("i", self.BAD, measure=2), measure=2))
        self.bad((0, 0), lap("j", lap("i", self.BAD, measure=2), measure="j"))

    def test_one_within_ahead_of_one_behind(self):
        outer = lap("k", say(1), self.BAD, measure="k")
        self.bad((0, 1), outer, self.BAD)
        self.bad((1, 0, 1), self.GOOD, lap("j", outer, measure="j"), self.BAD)
        self.bad((0, 1, 0), lap("j", say(1), lap("k", self.BAD, self.BAD, measure="k"), self.BAD, measure="j"))
        self.bad((0, 2), lap("j", say(1), lap("k", self.GOOD, measure="k"), lap("n", measure=7), measure="j"), self.BAD)

    def test_three_within_one_another(self):
        inmost = lap("k", say(1), put("a", 2), measure=3)
        self.bad((1, 0, 2), say(1), lap("i", lap("j", say(1), say(2), inmost, measure="j"), measure="i"))


class Refusals(LookTest):
    def badly_formed(self, program):
        for _ in range(2):
            with self.assertRaises(LapError) as caught:
                looked(program)
            self.assertIs(caught.exception.__class__, BadForm, program)

    def test_what_is_no_program(self):
        for thing in BROKEN:
            self.badly_formed(thing)

    def test_also_where_a_lap_need_not_fall(self):
        needs_not = lap("n", measure=1)
        for thing in BROKEN:
            if thing.__class__ is tuple and thing[:1] == ("row",) and thing[1:] and thing[1].__class__ is tuple:
                self.badly_formed(("row", (needs_not,) + thing[1]) + thing[2:])
                self.badly_formed(("row", thing[1] + (needs_not,)) + thing[2:])
        self.badly_formed(row(needs_not, needs_not, ("say", ("num", 1000))))
        self.badly_formed(row(lap("n", lap("i", put("A", 1), measure=1), measure=1)))

    def test_the_refusal_is_of_its_own_kind(self):
        for catching in (NeedntFall, LapError, ValueError):
            with self.assertRaises(catching):
                looked(row(lap("n", measure=0)))
        for other in (BadForm, Dry, Uneven):
            with self.assertRaises(NeedntFall) as caught:
                looked(row(lap("n", measure=0)))
            self.assertNotIsInstance(caught.exception, other)


class AgainstRuns(LookTest):
    def check(self, program, numbers=(0, 1, 2, 3), most=20000):
        """Each entry of each run has at most as many turns as its measure was; just as many where that is asked."""
        looked(program)
        names = names_of(program)
        for at in points(names, numbers):
            entries = ran(program, at, most)[3]
            for place, measure, turns in entries:
                self.assertLessEqual(turns, measure, (program, at, place))
            yield entries

    def test_just_as_many(self):
        """Laps that are even, and whose measure is their guard."""
        for program in (
            row(lap("n", measure="n")),
            row(lap("n", grow("y", "n"), measure="n"), lap("y", measure="y")),
            row(lap("n", put("i", "n"), lap("i", grow("y", 1), measure="i"), measure="n")),
            row(lap("n", put("i", "m"), lap("i", put("n", "n"), say("n"), measure="i"), measure="n")),
            row(put("n", add("n", 2)), lap("n", put("q", "n"), put("n", 9), put("n", "q"), measure="n")),
            within(3, say("i")),
        ):
            for entries in self.check(program):
                self.assertEqual([turns for _, _, turns in entries], [measure for _, measure, _ in entries])

    def test_at_most_as_many(self):
        fewer = 0
        for program in (
            row(lap("n", put("n", 0), measure="n")),
            row(lap("n", measure=times("n", "n")), lap("m", measure=add("m", "n"))),
            row(lap("n", grow("n", "m"), put("m", 0), measure=add("n", "m"))),
            row(lap("n", put("q", "n"), put("n", "m"), put("m", "q"), measure=add("n", "m"))),
            row(lap("n", lap("n", measure="n"), grow("n", 0), measure="n")),
            row(lap("n", put("i", "n"), lap("i", put("i", 0), grow("y", 1), measure=times("i", 3)), measure="n")),
        ):
            for entries in self.check(program):
                fewer += sum(turns < measure for _, measure, turns in entries)
        self.assertGreater(fewer, 20)

    def test_many_programs(self):
        let_by = entered = just = 0
        for seed in range(400):
            chances = Chances(seed)
            program = lapped_row(chances, "abc", "nij", 4)
            try:
                looked(program)
            except NeedntFall as refusal:
                self.assertEqual(self.lap_at(program, refusal.place)[0], "lap")
                continue
            let_by += 1
            for _ in range(4):
                at = {x: chances.below(4) for x in names_of(program)}
                try:
                    entries = ran(program, at, 200)[3]
                except Dry:
                    continue
                for place, measure, turns in entries:
                    self.assertLessEqual(turns, measure, (program, at, place))
                    entered += turns > 1
                    if self.is_even_by_its_guard(self.lap_at(program, place)):
                        just += 1
                        self.assertEqual(turns, measure, (program, at, place))
        self.assertGreater(let_by, 100)
        self.assertGreater(entered, 200)
        self.assertGreater(just, 200)

    def lap_at(self, program, place):
        found = program[1][place[0]]
        for at in place[1:]:
            found = found[3][1][at]
        return found

    def is_even_by_its_guard(self, one):
        guard = sum_of_name(one[1])
        behind = done_by(one[3]).get(one[1], guard) if one[1] in names_of(one[3]) else guard
        if one[1] in names_of(one[3]) and one[1] not in done_by(one[3]):
            return False
        return same(behind, guard) and same(sum_told(one[2]), guard)


if __name__ == "__main__":
    unittest.main()
