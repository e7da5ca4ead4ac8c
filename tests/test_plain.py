"""lapfold.plain: what a run tells, its names at the end, its turns and its entries."""

import unittest

from lapfold.errors import BadForm, Dry, LapError, NeedntFall, Uneven
from lapfold.forms import names_of
from lapfold.plain import ran
from program_helps import Chances, add, deep, grow, lap, put, row, say, some_row, times, within

NAMES = ("a", "b", "c", "d")


class RunTest(unittest.TestCase):
    def check(self, program, names, told, ends, turns, entries):
        """That many turns are just enough, that more are no matter, and that one fewer is refused."""
        handed = dict(names)
        for most in (turns, turns + 1, turns + 1000):
            found = ran(program, names, most)
            self.assertEqual(found, (told, ends, turns, entries))
            self.assertEqual([part.__class__ for part in found], [list, dict, int, list])
            self.assertIs(found.__class__, tuple)
            self.assertEqual(names, handed)
        if turns:
            self.refused(program, names, turns - 1)
            self.refused(program, names, 0)
        self.assertEqual(names, handed)

    def refused(self, program, names, most):
        with self.assertRaises(LapError) as caught:
            ran(program, names, most)
        self.assertIs(caught.exception.__class__, Dry)


class Rows(RunTest):
    def test_nothing(self):
        self.check(row(), {}, [], {}, 0, [])
        self.check(row(), {"a": 3}, [], {"a": 3}, 0, [])

    def test_set(self):
        self.check(row(put("a", 5)), {}, [], {"a": 5}, 0, [])
        self.check(row(put("a", 0)), {"a": 7}, [], {"a": 0}, 0, [])
        self.check(row(put("a", "b")), {"b": 4}, [], {"a": 4, "b": 4}, 0, [])
        self.check(row(put("a", add("a", 1)), put("a", times("a", "a"))), {"a": 2}, [], {"a": 9}, 0, [])

    def test_one_behind_another(self):
        program = row(put("c", "a"), put("a", "b"), put("b", "c"))
        self.check(program, {"a": 1, "b": 2}, [], {"a": 2, "b": 1, "c": 1}, 0, [])
        self.check(row(put("a", "b"), put("b", "a")), {"a": 1, "b": 2}, [], {"a": 2, "b": 2}, 0, [])

    def test_say(self):
        program = row(say("a"), put("a", add("a", 1)), say("a"), say(times("a", 10)), say(0), say("b"))
        self.check(program, {"a": 4}, [4, 5, 50, 0, 0], {"a": 5, "b": 0}, 0, [])
        self.check(row(say(999), say(999)), {}, [999, 999], {}, 0, [])

    def test_expressions(self):
        expression = add(times("a", add("b", 3)), times(times("a", "a"), 2))
        self.check(row(say(expression)), {"a": 5, "b": 7}, [100], {"a": 5, "b": 7}, 0, [])
        self.check(row(say(deep(5)), say(deep(6))), {"a": 1}, [7, 14], {"a": 1}, 0, [])

    def test_names_that_nobody_gave_a_number(self):
        program = row(say("a"), put("b", add("c", 1)), lap("d", measure="e"))
        self.check(program, {}, [0], {"a": 0, "b": 1, "c": 0, "d": 0, "e": 0}, 0, [((2,), 0, 0)])

    def test_names_that_the_program_does_not_have(self):
        self.check(row(put("a", 1)), {"q": 8, "a": 3, "k": 0}, [], {"q": 8, "a": 1, "k": 0}, 0, [])

    def test_names_of_all_places(self):
        program = row(lap("a", lap("b", say("c"), measure="d"), measure=add("e", 1)), say("f"), put("g", "h"))
        ends = ran(program, {}, 5)[1]
        self.assertEqual(ends, {x: 0 for x in "abcdefgh"})

    def test_large_numbers(self):
        self.check(row(put("a", times("a", "a"))), {"a": 10 ** 199}, [], {"a": 10 ** 398}, 0, [])


class Laps(RunTest):
    def test_guard_at_nought(self):
        program = row(lap("n", put("a", 9), say(1), measure="m"))
        self.check(program, {"a": 2, "m": 6}, [], {"a": 2, "m": 6, "n": 0}, 0, [((0,), 6, 0)])

    def test_one_turn(self):
        program = row(lap("n", grow("a", "n"), say("n"), measure="n"))
        self.check(program, {"a": 2, "n": 1}, [0], {"a": 2, "n": 0}, 1, [((0,), 1, 1)])

    def test_one_is_taken_off_ahead_of_the_row(self):
        program = row(lap("n", grow("a", "n"), say("n"), measure="n"))
        self.check(program, {"n": 4}, [3, 2, 1, 0], {"a": 6, "n": 0}, 4, [((0,), 4, 4)])

    def test_empty_row(self):
        self.check(row(lap("n", measure="n")), {"n": 7}, [], {"n": 0}, 7, [((0,), 7, 7)])

    def test_a_guard_that_the_row_sets(self):
        up = row(lap("n", put("n", "m"), put("m", 0), say("n")))
        self.check(up, {"n": 5, "m": 2}, [2, 0], {"m": 0, "n": 0}, 2, [((0,), 1, 2)])
        down = row(lap("n", put("n", 0), measure=77))
        self.check(down, {"n": 50}, [], {"n": 0}, 1, [((0,), 77, 1)])
        twice = row(lap("n", lap("n", say("n")), say(100)))
        self.check(twice, {"n": 4}, [2, 1, 0, 100], {"n": 0}, 4, [((0, 0), 1, 3), ((0,), 1, 1)])

    def test_without_an_end(self):
        endless = row(lap("n", put("n", 1)))
        for most in (0, 1, 2, 50, 1000):
            self.refused(endless, {"n": 1}, most)
        self.check(endless, {"n": 0}, [], {"n": 0}, 0, [((0,), 1, 0)])

    def test_the_measure_is_not_reckoned_by(self):
        for measure in (0, 1, 999, "n", "m", times("n", 3)):
            told, ends, turns, entries = ran(row(lap("n", grow("a", 1), measure=measure)), {"n": 3, "m": 5}, 3)
            self.assertEqual((told, ends["a"], ends["n"], turns, entries[0][2]), ([], 3, 0, 3, 3))

    def test_the_measure_ahead_of_the_first_turn(self):
        program = row(put("m", 2), lap("n", grow("m", 5), measure=add("m", times("n", 10))), say("m"))
        self.check(program, {"n": 3, "m": 100}, [17], {"m": 17, "n": 0}, 3, [((1,), 32, 3)])

    def test_a_measure_of_nought(self):
        self.check(row(lap("n", measure="m")), {"n": 2}, [], {"m": 0, "n": 0}, 2, [((0,), 0, 2)])

    def test_one_behind_another(self):
        program = row(lap("a", grow("b", 2), measure="a"), say("b"), lap("b", grow("c", 1), measure="b"))
        self.check(program, {"a": 2, "b": 1}, [5], {"a": 0, "b": 0, "c": 5}, 7, [((0,), 2, 2), ((2,), 5, 5)])

    def test_the_same_lap_written_twice(self):
        one = lap("a", grow("b", 1), measure="b")
        self.check(row(one, put("a", 2), one), {"a": 1}, [], {"a": 0, "b": 3}, 3, [((0,), 0, 1), ((2,), 1, 2)])

    def test_within_a_lap(self):
        program = row(
            say(7),
            lap("n", say("n"), put("i", "n"), lap("i", grow("y", 1), measure=add("i", 50)), measure=times("n", "n")),
        )
        entries = [((1, 2), 52, 2), ((1, 2), 51, 1), ((1, 2), 50, 0), ((1,), 9, 3)]
        self.check(program, {"n": 3}, [7, 2, 1, 0], {"i": 0, "n": 0, "y": 3}, 6, entries)

    def test_three_within_one_another(self):
        program = row(
            put("q", 1),
            lap(
                "a",
                put("b", 2),
                say("a"),
                lap("b", put("c", "b"), lap("c", grow("q", 1), say("q"), measure="q"), measure="b"),
                lap("d", measure=add("d", 7)),
                measure="a",
            ),
        )
        entries = [
            ((1, 2, 1), 1, 1), ((1, 2, 1), 2, 0), ((1, 2), 2, 2), ((1, 3), 8, 1),
            ((1, 2, 1), 2, 1), ((1, 2, 1), 3, 0), ((1, 2), 2, 2), ((1, 3), 7, 0), ((1,), 2, 2),
        ]
        ends = {"a": 0, "b": 0, "c": 0, "d": 0, "q": 3}
        self.check(program, {"a": 2, "d": 1}, [1, 2, 0, 3], ends, 9, entries)

    def test_somewhat_beyond_three(self):
        program = within(5, say(1))
        names = {"i": 1, "j": 1, "k": 1, "l": 1, "m": 1}
        entries = [((0,) * levels, 1, 1) for levels in (5, 4, 3, 2, 1)]
        self.check(program, names, [1], {x: 0 for x in names}, 5, entries)

    def test_a_lap_that_is_never_come_to_has_no_entry(self):
        program = row(lap("a", lap("b", measure=3), measure=2))
        self.check(program, {"b": 4}, [], {"a": 0, "b": 4}, 0, [((0,), 2, 0)])

    def test_many_turns(self):
        told, ends, turns, entries = ran(row(lap("n", grow("a", "n"), measure="n")), {"n": 20000}, 20000)
        self.assertEqual((told, turns, entries), ([], 20000, [((0,), 20000, 20000)]))
        self.assertEqual(ends, {"a": 199990000, "n": 0})


class Most(RunTest):
    def test_all_laps_share_it(self):
        program = row(lap("a"), lap("b"), lap("c", lap("d")))
        names = {"a": 2, "b": 3, "c": 1, "d": 4}
        self.check(program, names, [], {x: 0 for x in "abcd"}, 10,
                   [((0,), 1, 2), ((1,), 1, 3), ((2, 0), 1, 4), ((2,), 1, 1)])
        for most in range(10):
            self.refused(program, names, most)

    def test_nought(self):
        self.check(row(put("a", 1), say("a")), {}, [1], {"a": 1}, 0, [])
        self.refused(row(lap("n")), {"n": 1}, 0)
        self.refused(row(put("n", 1), say("n"), lap("n")), {}, 0)

    def test_the_refusal_is_of_its_own_kind(self):
        for catching in (Dry, LapError, ValueError):
            with self.assertRaises(catching):
                ran(row(lap("n")), {"n": 2}, 1)
        for other in (BadForm, NeedntFall, Uneven):
            with self.assertRaises(Dry) as caught:
                ran(row(lap("n")), {"n": 2}, 1)
            self.assertNotIsInstance(caught.exception, other)

    def test_large(self):
        ran(row(lap("n")), {"n": 2}, 10 ** 399)

    def test_names_are_the_same_where_refused(self):
        names = {"n": 5, "q": 1}
        self.refused(row(put("q", 2), lap("n", put("a", 1))), names, 3)
        self.assertEqual(names, {"n": 5, "q": 1})
        self.check(row(put("q", 2), lap("n", put("a", 1))), names, [], {"a": 1, "n": 0, "q": 2}, 5, [((1,), 1, 5)])


class Again(unittest.TestCase):
    PROGRAM = row(say("a"), put("b", 3), lap("b", grow("a", 2), lap("c"), measure="a"), say("a"))

    def test_what_is_given_back_may_be_changed(self):
        names = {"a": 1, "c": 2, "q": 9}
        wanted = ran(self.PROGRAM, dict(names), 100)
        for _ in range(3):
            told, ends, turns, entries = ran(self.PROGRAM, names, 100)
            self.assertEqual((told, ends, turns, entries), wanted)
            told.append(5)
            ends["a"] = 1000
            ends["new"] = 1
            del ends["q"]
            entries.clear()
            self.assertEqual(names, {"a": 1, "c": 2, "q": 9})

    def test_names_without_a_change_are_a_copy(self):
        names = {"a": 1}
        ends = ran(row(), names, 0)[1]
        self.assertIsNot(ends, names)
        ends["a"] = 2
        self.assertEqual(names, {"a": 1})

    def test_what_was_handed_in_may_be_changed(self):
        names = {"a": 1}
        ends = ran(row(), names, 0)[1]
        names["a"] = 2
        names["b"] = 3
        self.assertEqual(ends, {"a": 1})

    def test_two_runs_have_nothing_in_common(self):
        one = ran(self.PROGRAM, {"a": 1}, 100)
        other = ran(self.PROGRAM, {"a": 1}, 100)
        one[0].append(1), one[1].clear(), one[3].append(2)
        self.assertEqual(other, ran(self.PROGRAM, {"a": 1}, 100))


def by_hand(program, names, most):
    """The same as ran, on another way: by a list of what is still to be done. None where it is Dry."""
    now = {**{x: 0 for x in names_of(program)}, **names}
    told, entries, turns = [], [], 0
    todo = [("row", (), program)]
    while todo:
        kind, place, *rest = todo.pop()
        if kind == "row":
            todo.extend(reversed([("do", place + (at,), part) for at, part in enumerate(rest[0][1])]))
        elif kind == "lap":
            statement, measure, done = rest
            if now[statement[1]] == 0:
                entries.append((place, measure, done))
                continue
            if turns == most:
                return None
            turns += 1
            now[statement[1]] -= 1
            todo.append(("lap", place, statement, measure, done + 1))
            todo.append(("row", place, statement[3]))
        elif rest[0][0] == "lap":
            todo.append(("lap", place, rest[0], number_of(rest[0][2], now), 0))
        elif rest[0][0] == "say":
            told.append(number_of(rest[0][1], now))
        else:
            now[rest[0][1]] = number_of(rest[0][2], now)
        if max(now.values(), default=0) > 10 ** 400:
            return None
    return told, now, turns, entries


def number_of(expression, names):
    if expression[0] in ("num", "name"):
        return expression[1] if expression[0] == "num" else names[expression[1]]
    one, other = (number_of(part, names) for part in expression[1:])
    return one + other if expression[0] == "add" else one * other


class Many(RunTest):
    def test_many_programs(self):
        compared = 0
        for seed in range(1500):
            chances = Chances(seed)
            program = some_row(chances, NAMES, 3, 5)
            names = {x: chances.below(4) for x in NAMES if chances.below(4)}
            wanted = by_hand(program, names, 60)
            if wanted is None:
                continue
            self.check(program, names, *wanted)
            compared += wanted[2] > 2
            self.assertEqual(sum(entry[2] for entry in wanted[3]), wanted[2])
        self.assertGreater(compared, 100)


if __name__ == "__main__":
    unittest.main()
