"""lapfold.counting: the count of all turns, and what the names are at the end, told as sums."""

import unittest

from lapfold.changes import done_by
from lapfold.counting import count_of, ends_of
from lapfold.errors import BadForm, Dry, LapError, NeedntFall, Uneven
from lapfold.falls import looked
from lapfold.forms import names_of
from lapfold.plain import ran
from lapfold.sums import Sum, added, names_in, put_in, same, sum_of_name, worth
from program_helps import Chances, add, even_row, grow, lap, lapped_row, points, put, row, say, some_row, times, within
from sum_helps import faults_of

GREAT = (10 ** 23 + 7, 987654321098765432109876, 10 ** 24 - 1, 0, 1, 5, 314159265358979323846264)


class CountTest(unittest.TestCase):
    def check(self, *statements, numbers=(0, 1, 2, 3)):
        """The count is that of the runs from several points, and so are the ends; behind it stands the count."""
        program = row(*statements)
        count = count_of(program)
        self.assertIs(count.__class__, Sum)
        self.assertEqual(faults_of(count), [])
        ends = ends_of(program)
        for at in points(names_of(program), numbers):
            _, names, turns, _ = ran(program, at, 10 ** 5)
            self.assertEqual(worth(count, at), (turns, 1), (program, at))
            for x in ends:
                self.assertEqual(worth(ends[x], at), (names[x], 1), (program, at, x))
        return count

    def counted(self, parts, *statements):
        self.assertEqual(self.check(*statements).parts, parts)

    def uneven(self, place, *statements):
        for _ in range(2):
            with self.assertRaises(LapError) as caught:
                count_of(row(*statements))
            self.assertIs(caught.exception.__class__, Uneven, statements)
            self.assertIs(caught.exception.place.__class__, tuple)
            self.assertEqual(caught.exception.place, place, statements)

    def uneven_anywhere(self, place, *statements):
        """Uneven at the top, behind other statements, and within laps: at the place, moved by where they stand."""
        at, inner = place[0], place[1:]
        self.uneven(place, *statements)
        self.uneven((at + 3,) + inner, say("a"), put("z", 5), lap("p", grow("z", 1)), *statements)
        self.uneven(place, *statements, lap("p", grow("p", 1)))
        if len(place) < 3:
            self.uneven((0,) + place, lap("p", *statements))
            self.uneven((1, at + 1) + inner, put("p", 7), lap("p", say("a"), *statements), lap("q", grow("q", 1)))


class Counts(CountTest):
    def test_no_laps(self):
        self.counted({})
        self.counted({}, put("a", 3), say("a"), grow("a", "b"))

    def test_one(self):
        self.counted({(("n", 1),): (1, 1)}, lap("n"))
        self.counted({(("n", 1),): (1, 1)}, lap("n", grow("y", "n"), say("y"), put("z", 1)))
        self.counted({(): (4, 1)}, put("n", 4), lap("n"))
        self.counted({}, put("n", 0), lap("n"))
        self.counted({(("a", 1),): (1, 1), (("b", 1),): (2, 1)}, put("n", add("a", times(2, "b"))), lap("n"))
        self.counted({(("a", 1), ("b", 1)): (1, 1)}, put("n", times("a", "b")), lap("n"))
        self.counted({(("n", 1),): (1, 1)}, lap("n", put("n", "n")))

    def test_one_behind_another(self):
        self.counted({(("n", 1),): (1, 1), (("m", 1),): (1, 1)}, lap("n"), lap("m"))
        self.counted({(("n", 1),): (1, 1)}, lap("n"), lap("n"))
        self.counted({(("n", 1),): (1, 1), (): (3, 1)}, lap("n"), put("n", 3), lap("n"))

    def test_as_often_as_a_name_tells_that_the_first_one_grew(self):
        self.counted({(("n", 1),): (3, 1), (("y", 1),): (1, 1)}, lap("n", grow("y", 2)), lap("y"))
        self.counted({(("n", 2),): (1, 2), (("n", 1),): (1, 2), (("y", 1),): (1, 1)},
                     lap("n", grow("y", "n")), lap("y"))
        self.check(lap("n", grow("y", "n"), grow("z", "y")), lap("z", grow("x", 1)), lap("x"))
        self.check(lap("n", grow("y", "m")), put("i", times("y", "y")), lap("i"))

    def test_two_within_one_another(self):
        self.counted({(("n", 1),): (4, 1)}, lap("n", put("i", 3), lap("i")))
        self.counted({(("n", 1),): (1, 1)}, lap("n", put("i", 0), lap("i")))
        self.counted({(("n", 2),): (1, 2), (("n", 1),): (1, 2)}, lap("n", put("i", "n"), lap("i")))
        self.counted({(("n", 1),): (1, 1), (("k", 1), ("n", 1)): (1, 1)}, lap("n", put("i", "k"), lap("i")))
        self.check(lap("n", put("i", add("n", "k")), lap("i", grow("y", 1))), lap("y"))

    def test_as_often_as_a_growing_name_tells(self):
        self.check(lap("n", put("i", "k"), lap("i"), grow("k", 1)))
        self.check(lap("n", grow("k", 1), put("i", "k"), lap("i")))
        self.check(lap("n", put("i", "k"), grow("k", "m"), lap("i")))
        self.check(lap("n", put("i", "k"), lap("i", grow("k", 0)), grow("k", "n"), put("i", "k"), lap("i")))
        ahead = count_of(row(lap("n", put("i", "k"), lap("i"), grow("k", 1))))
        behind = count_of(row(lap("n", grow("k", 1), put("i", "k"), lap("i"))))
        self.assertTrue(same(behind, added(ahead, sum_of_name("n"))))

    def test_three_within_one_another(self):
        self.counted({(("a", 3),): (1, 6), (("a", 1),): (5, 6)},
                     lap("a", put("b", "a"), lap("b", put("c", "b"), lap("c"))))
        self.check(lap("a", put("b", 2), lap("b", put("c", "a"), lap("c", grow("y", 1)), grow("y", "b"))), lap("y"),
                   numbers=(0, 1, 2))
        self.check(lap("a", put("b", "k"), lap("b", put("c", "k"), lap("c")), grow("k", 1)), numbers=(0, 1, 2))
        self.check(lap("a", put("b", 1), lap("b", grow("k", "a")), put("b", "k"), lap("b", put("c", "b"), lap("c"))),
                   numbers=(0, 1, 2))

    def test_names_that_a_lap_within_sets_anew(self):
        self.check(lap("n", put("i", 2), lap("i", put("k", "n")), put("i", "k"), lap("i")))
        self.check(put("n", add("n", 1)), lap("n", put("k", add("n", "m"))), lap("k"))
        self.counted({(("n", 1),): (1, 1), (("m", 1),): (1, 1), (): (1, 1)},
                     put("n", add("n", 1)), lap("n", put("k", add("m", "n"))), lap("k"))
        self.counted({(("n", 1),): (5, 1)}, lap("n", put("i", 2), lap("i", put("k", "i"), grow("k", 2)), lap("k")))

    def test_programs_that_are_not_let_by(self):
        for statements in (
            (lap("n", measure=0),), (lap("n", measure="m"),),
            (lap("n", put("i", "n"), lap("i", measure=1), measure=1),),
            (lap("n", grow("m", 1), measure=add("n", "m")), lap("m", measure=9)),
        ):
            with self.assertRaises(NeedntFall):
                looked(row(*statements))
            self.check(*statements)

    def test_laps_that_are_let_by_but_not_even(self):
        program = row(lap("n", put("n", 0), measure="n"))
        self.assertIsNone(looked(program))
        self.uneven((0,), *program[1])

    def test_parts_that_come_to_nought(self):
        """w is blurred behind the first lap, but nothing of it is left in what the laps count."""
        blurs = lap("b", put("w", 1))
        counts = lap("g", put("i", times("w", "g")), lap("i"))
        self.counted({(("b", 1),): (1, 1)}, blurs, put("g", 0), counts)
        self.counted({(("b", 1),): (1, 1), (): (1, 1)}, blurs, put("g", 1), counts)
        self.uneven((2,), blurs, put("g", 2), counts)
        self.counted({(("b", 1),): (1, 1)}, blurs, put("k", 0), put("i", times("w", "k")), lap("i"))

    def test_somewhat_beyond_the_limits(self):
        inner = [grow("y", 1)]
        for outer, guard in (("d", "e"), ("c", "d"), ("b", "c"), ("a", "b")):
            inner = [put(guard, outer), lap(guard, *inner)]
        self.check(lap("a", *inner), numbers=(0, 1, 2, 3))
        self.counted({(("n", 1),): (1, 1), (): (5000, 1)},
                     *[say("x")] * 50, put("i", 5000), lap("n", grow("i", 0)), lap("i"))
        self.assertEqual(count_of(row(lap("abcdefghij"))).parts, {(("abcdefghij", 1),): (1, 1)})


class GreatInputs(CountTest):
    LAPS = (
        lap("n"),
        lap("n", grow("y", "n"), grow("z", "y")),
        lap("n", put("i", "n"), lap("i", grow("y", "i"))),
        lap("n", put("i", add("n", times("k", 2))), lap("i", put("j", "i"), lap("j", grow("y", "k"))), grow("k", "n")),
        lap("n", grow("k", 3), put("i", "k"), lap("i", put("j", "n"), lap("j", grow("y", "z")), grow("z", 1))),
        lap("n", put("i", times("n", "n")), lap("i", put("j", add("k", 1)), lap("j", put("q", "j")), grow("y", "i"))),
    )

    def inputs(self, names):
        for first in range(len(GREAT)):
            yield {x: GREAT[(first + at) % len(GREAT)] for at, x in enumerate(names)}

    def at(self, sums, names):
        """What the sums tell where the names are so: whole numbers."""
        told = {x: worth(sums[x], names) for x in sums}
        self.assertTrue(all(bottom == 1 for _, bottom in told.values()))
        return {x: top for x, (top, _) in told.items()}

    def test_one_more_for_the_guard(self):
        """One turn more, what its row counts, and what the lap has from behind the row on."""
        for one in self.LAPS:
            count, ends = count_of(row(one)), ends_of(row(one))
            in_row, behind = count_of(one[3]), ends_of(one[3])
            for names in self.inputs(names_of(row(one))):
                one_more = {**names, one[1]: names[one[1]] + 1}
                rest = {**names, **self.at(behind, names)}
                whole = self.at({"all": count, "row": in_row}, names)["row"] + 1 + self.at({"all": count}, rest)["all"]
                self.assertEqual(worth(count, one_more), (whole, 1), (one, names))
                after = self.at(ends, rest)
                self.assertEqual(self.at(ends, one_more), after, (one, names))

    def test_no_turns(self):
        for one in self.LAPS:
            count, ends = count_of(row(one)), ends_of(row(one))
            for names in self.inputs(names_of(row(one))):
                names[one[1]] = 0
                self.assertEqual(worth(count, names), (0, 1))
                self.assertEqual(self.at(ends, names), {x: names[x] for x in ends})

    def test_written_out(self):
        n = 123456789012345678901234
        program = row(lap("n", put("i", "n"), lap("i")))
        self.assertEqual(worth(count_of(program), {"n": n}), (n * (n + 1) // 2, 1))
        program = row(lap("a", put("b", "a"), lap("b", put("c", "b"), lap("c"))))
        self.assertEqual(worth(count_of(program), {"a": n}), (n + n * (n - 1) // 2 + n * (n - 1) * (n - 2) // 6, 1))
        program = row(put("i", times("n", 999)), lap("i", put("j", add("m", 1)), lap("j")), lap("n"))
        m = 999999999999999999999999
        self.assertEqual(worth(count_of(program), {"n": n, "m": m}), (999 * n * (m + 2) + n, 1))


class BetweenOthers(CountTest):
    def check_both(self, first, second):
        """The count of both is that of the first, and that of the second with the ends of the first put in."""
        ahead = {x: sum_of_name(x) for x in names_of(second) if x not in names_of(first)}
        ahead.update(ends_of(first))
        count = count_of(second)
        both = row(*first[1], *second[1])
        if any(x not in ahead for x in names_in(count)):
            with self.assertRaises(Uneven):
                count_of(both)
            return 0
        self.assertTrue(same(count_of(both), added(count_of(first), put_in(count, ahead))), (first, second))
        return 1

    def test_some(self):
        first = row(put("m", add("n", 2)), lap("n", grow("y", "k"), put("z", 1)))
        for second in (
            row(), row(lap("n")), row(lap("m")), row(lap("y", put("i", "m"), lap("i"))), row(put("n", 3), lap("n")),
            row(put("i", times("y", "k")), lap("i", put("n", "i"), lap("n", grow("k", 1))), lap("k")),
        ):
            self.assertEqual(self.check_both(first, second), 1)
        self.assertEqual(self.check_both(first, row(lap("z"))), 0)

    def test_many(self):
        both = 0
        for seed in range(500):
            chances = Chances(seed)
            first = even_row(chances, "abcdef", "ghi", 4) if seed % 3 else lapped_row(chances, "abcde", "fgh", 4)
            try:
                count_of(first)
            except Uneven:
                continue
            second = even_row(chances, "abcdef", "ghi", 4)
            try:
                count_of(second)
            except Uneven:
                continue
            both += self.check_both(first, second)
        self.assertGreater(both, 200)


class UnevenLaps(CountTest):
    def test_a_lap_that_adds_to_its_guard(self):
        for more in (1, 2, "m", "n", times("n", "m")):
            self.uneven_anywhere((0,), lap("n", grow("n", more)))

    def test_a_lap_that_sets_its_guard(self):
        for other in (0, 1, "m", times("n", 2), times("n", "n"), times("n", 0)):
            self.uneven_anywhere((0,), lap("n", put("n", other)))
        self.uneven_anywhere((1,), put("n", 0), lap("n", put("n", 0)))
        self.uneven_anywhere((0,), lap("n", lap("n")))
        self.uneven_anywhere((0,), lap("n", lap("i"), put("n", "i")))

    def test_a_guard_that_was_blurred(self):
        self.uneven_anywhere((1,), lap("n", grow("y", "y")), lap("y"))
        self.uneven_anywhere((1,), lap("n", put("y", 3)), lap("y"))
        self.uneven_anywhere((2,), lap("n", put("y", 3)), put("i", add("y", 1)), lap("i"))
        self.uneven_anywhere((3,), lap("n", put("y", 3)), put("i", times("y", "m")), say("i"), lap("i"))
        self.uneven_anywhere((0,), lap("n", grow("n", 1), grow("y", 1)), lap("y"))

    def test_a_row_that_counts_by_a_blurred_name(self):
        blurs = lap("n", put("y", 3))
        self.uneven_anywhere((1,), blurs, lap("m", put("i", "y"), lap("i")))
        self.uneven_anywhere((1,), blurs, lap("m", grow("k", "y"), put("i", "k"), lap("i")))
        self.check(blurs, lap("m", put("i", "k"), lap("i", grow("y", "y"))), numbers=(0, 1, 2))

    def test_an_inner_guard_that_nobody_set_anew(self):
        self.uneven_anywhere((0,), lap("n", lap("i")))
        self.uneven_anywhere((1,), put("i", 0), lap("n", lap("i", grow("y", 1))))
        self.uneven_anywhere((0,), lap("n", say("i"), lap("i"), put("i", 3)))

    def test_an_inner_guard_by_a_name_that_is_not_told_in_the_turns(self):
        self.uneven_anywhere((0,), lap("n", put("i", "k"), lap("i"), grow("k", "k")))
        self.uneven_anywhere((0,), lap("n", put("i", "k"), lap("i"), put("k", 4)))
        self.uneven_anywhere((0,), lap("n", put("i", add("n", times("m", "k"))), lap("i"), put("k", "m")))
        self.uneven_anywhere((0,), lap("n", put("i", "h"), lap("i"), grow("h", "k"), put("k", "m")))

    def test_an_inner_lap_that_blurs_its_next_ones_guard(self):
        self.uneven_anywhere((0, 2), lap("n", put("i", "k"), lap("i", put("y", 1)), lap("y")))

    def test_two_such_laps(self):
        bad = lap("n", grow("n", 1))
        self.uneven((0,), bad, bad)
        self.uneven((1,), lap("n"), bad, bad)
        self.uneven((2,), say(1), put("a", 1), bad, lap("m", bad))

    def test_those_within_a_lap_ahead_of_it(self):
        bad = lap("n", grow("n", 1))
        self.uneven((0, 0), lap("n", bad, grow("n", 1)))
        self.uneven((0, 1), lap("n", say(1), bad, bad, grow("n", 1)), bad)
        self.uneven((0, 1, 2), lap("m", say(1), lap("k", say(1), say(2), bad, grow("k", 1)), grow("m", 1)))
        self.uneven((0, 1), lap("m", say(1), lap("k", grow("k", 1)), lap("k", bad), grow("m", 1)))
        self.uneven((1, 0), lap("m"), lap("m", bad), lap("m", grow("m", 1)))

    def test_a_lap_is_uneven_also_where_it_is_never_come_to(self):
        self.uneven((0, 0), lap("n", lap("i", grow("i", 1))))
        self.uneven((1, 0), put("n", 0), lap("n", lap("i", put("i", 0))))

    def test_the_refusal_is_of_its_own_kind(self):
        for catching in (Uneven, LapError, ValueError):
            with self.assertRaises(catching):
                count_of(row(lap("n", put("n", 0))))
        for other in (BadForm, Dry, NeedntFall):
            with self.assertRaises(Uneven) as caught:
                count_of(row(lap("n", put("n", 0))))
            self.assertNotIsInstance(caught.exception, other)


class Ends(unittest.TestCase):
    def check(self, program, out=(), numbers=(0, 1, 2, 3)):
        for _ in range(2):
            ends = ends_of(program)
            self.assertIs(ends.__class__, dict)
            self.assertEqual(list(ends), [x for x in names_of(program) if x not in out], program)
        for at in points(names_of(program), numbers):
            names = ran(program, at, 20000)[1]
            for x in ends:
                self.assertEqual(worth(ends[x], at), (names[x], 1), (program, at, x))
        return {x: told.parts for x, told in ends.items()}

    def test_without_laps(self):
        self.assertEqual(self.check(row()), {})
        self.assertEqual(self.check(row(say("a"), put("b", add("c", 2)))),
                         {"a": {(("a", 1),): (1, 1)}, "b": {(("c", 1),): (1, 1), (): (2, 1)},
                          "c": {(("c", 1),): (1, 1)}})

    def test_names_that_nothing_sets(self):
        ends = self.check(row(lap("n", say("a"), grow("y", "b"), lap("i", measure="c"), measure="d")), out=("i",))
        for x in "abcd":
            self.assertEqual(ends[x], {((x, 1),): (1, 1)})

    def test_guards(self):
        self.assertEqual(self.check(row(lap("n")))["n"], {})
        self.assertEqual(self.check(row(lap("n"), put("n", 5)))["n"], {(): (5, 1)})
        self.assertEqual(self.check(row(lap("n"), grow("n", "m")))["n"], {(("m", 1),): (1, 1)})
        self.assertEqual(self.check(row(lap("n", put("n", 0))))["n"], {})
        self.check(row(lap("n", put("n", 0), lap("i"))), out=("i",))
        self.check(row(lap("n", put("n", "m"), put("m", 0))), out=("m",))

    def test_names_that_are_told_and_that_are_not(self):
        self.check(row(lap("n", grow("y", "n"), put("z", 1), grow("x", "x"))), out=("x", "z"))
        self.check(row(put("n", add("n", 1)), lap("n", grow("y", "n"), put("z", 1), grow("x", "x"))), out=("x",))
        self.check(row(lap("n", put("i", "n"), lap("i", grow("y", 1), put("z", 1)))), out=("i", "z"))
        self.check(row(put("n", 2), lap("n", put("i", "k"), lap("i", grow("y", 1), put("z", 1)))), out=("z",))
        self.check(row(lap("n", put("y", 1)), put("x", "y"), put("w", times("y", 0))), out=("x", "y"))

    def test_programs_that_are_not_counted_and_not_let_by(self):
        program = row(lap("n", put("n", 0), grow("y", 1), measure=0), put("z", add("n", 3)))
        self.assertRaises(Uneven, count_of, program)
        self.assertRaises(NeedntFall, looked, program)
        self.assertEqual(self.check(program, out=("y",)), {"n": {}, "z": {(): (3, 1)}})

    def test_the_same_as_what_the_row_does(self):
        for seed in range(100):
            program = some_row(Chances(seed), "abc", 3, 4)
            ends, done = ends_of(program), done_by(program)
            self.assertEqual({x: told.parts for x, told in ends.items()}, {x: told.parts for x, told in done.items()})


class Again(unittest.TestCase):
    PROGRAMS = (
        row(put("a", "b"), lap("n", grow("y", "n"), put("z", "a"))),
        row(lap("n", put("i", "n"), lap("i", grow("y", 1))), lap("y")),
        within(3, say("a")),
    )

    def test_what_is_given_back_may_be_changed(self):
        for program in self.PROGRAMS[:2]:
            count, ends = dict(count_of(program).parts), {x: dict(told.parts) for x, told in ends_of(program).items()}
            for _ in range(2):
                found = count_of(program)
                self.assertEqual(found.parts, count)
                found.parts.clear()
                told = ends_of(program)
                self.assertEqual({x: told[x].parts for x in told}, ends)
                for x in told:
                    told[x].parts[()] = (7, 1)
                told.clear()

    def test_again_behind_a_refusal(self):
        for program in self.PROGRAMS[:2]:
            wanted = count_of(program).parts
            for _ in range(2):
                self.assertRaises(Uneven, count_of, self.PROGRAMS[2])
                self.assertEqual(count_of(program).parts, wanted)


class Many(CountTest):
    def test_many_programs(self):
        counted = turns_in_all = refused = 0
        for seed in range(500):
            chances = Chances(seed)
            program = lapped_row(chances, "abc", "nij", 4)
            try:
                count = count_of(program)
                counted += 1
            except Uneven:
                refused += 1
                count = None
            ends = ends_of(program)
            for _ in range(4):
                at = {x: chances.below(4) for x in names_of(program)}
                try:
                    _, names, turns, _ = ran(program, at, 200)
                except Dry:
                    if count is not None:
                        self.assertGreater(worth(count, at), (200, 1))
                    continue
                turns_in_all += turns
                if count is not None:
                    self.assertEqual(worth(count, at), (turns, 1), (program, at))
                for x in ends:
                    self.assertEqual(worth(ends[x], at), (names[x], 1), (program, at, x))
        self.assertGreater(counted, 200)
        self.assertGreater(refused, 50)
        self.assertGreater(turns_in_all, 2000)


if __name__ == "__main__":
    unittest.main()
