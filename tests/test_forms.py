"""lapfold.forms: what is a program, which names it has, and what its expressions tell."""

import copy
import unittest

from lapfold.errors import BadForm, Dry, LapError, NeedntFall, Uneven
from lapfold.forms import names_of, need_program, sum_told
from lapfold.sums import Sum, same, worth
from program_helps import add, deep, grow, lap, name, num, of, put, row, say, times, within
from sum_helps import faults_of


class Unequal:
    """Not to be compared, and it has no truth and no length."""

    def __eq__(self, other):
        raise RuntimeError("compared")

    def __bool__(self):
        raise RuntimeError("asked")

    def __len__(self):
        raise RuntimeError("measured")

    def __iter__(self):
        raise RuntimeError("gone over")

    def __repr__(self):
        raise RuntimeError("shown")

    __hash__ = None


class Equal:
    """Says of everything that it is the same."""

    def __eq__(self, other):
        return True

    def __hash__(self):
        return hash("row")

    def __len__(self):
        return 2

    def __getitem__(self, at):
        return "row" if at == 0 else ()


def in_itself():
    knot = ["row"]
    knot.append(knot)
    return knot


ANYTHING = (
    None, True, False, 0, 1, -1, 1000, 2.5, "", "row", "a", "set", b"row", [], {}, (), set(), object(), Unequal(),
    Equal(), {"row": ()}, ["row", []], ["row", ()], lambda: ("row", ()), tuple, in_itself(), ((), ()),
)

NO_TUPLES = tuple(thing for thing in ANYTHING if thing.__class__ is not tuple)

NO_NAMES = (
    "", "abcdefghi", "a" * 100, "A", "aB", "Abc", "a1", "1", "a_b", "_", "a b", " a", "a ", "a\n", "a.b", "a-b", "\x00",
    "\u00e4", "\u00df", "a\u0301", "\u0430", "\uff41", "`", "{", "@", "Z", "\ud800",
    None, True, 0, 3, 2.5, b"a", ["a"], ("a",), {"a": 1}, {"a"}, object(), Unequal(), Equal(),
)
NAMES = ("a", "z", "az", "abcdefgh", "zzzzzzzz", "row", "set", "num", "lap")

NO_NUMBERS = (
    -1, -999, 1000, 1001, 10 ** 30, -10 ** 30, True, False, 1.0, 0.0, 2 + 0j, "1", "", b"1", None, [1], (1,), {1: 1},
    object(), Unequal(), Equal(),
)
NUMBERS = (0, 1, 2, 9, 10, 500, 998, 999)

NO_EXPRESSIONS = (
    ANYTHING
    + tuple(("num", n) for n in NO_NUMBERS)
    + tuple(("name", x) for x in NO_NAMES)
    + (
        ("num",), ("num", 1, 1), ("num", 1, ()), ("name",), ("name", "a", "b"), ("add", num(1)), ("add",),
        ("add", num(1), num(1), num(1)), ("times", num(1)), ("times",), ("times", num(1), num(1), num(1)),
        ("less", num(1)), ("sub", num(1), num(1)), ("plus", num(1), num(1)), ("Num", 1), ("num ", 1), ("", 1),
        ("NAME", "a"), ("none",), ("slot", 0), ("set", "a", num(1)), ("say", num(1)), ("row", ()), (num(1),),
        (None, 1), (1, 1), (True, 1), (("num",), 1), (["num"], 1), ({}, 1), (b"num", 1), (Unequal(), 1), (Equal(), 1),
        ["num", 1], ["name", "a"], ["add", num(1), num(1)], ("num", [1]), ("name", ["a"]),
        ("add", ["num", 1], num(1)), ("add", num(1), ["num", 1]), ("times", ["name", "a"], num(1)),
        ("times", num(1), ["name", "a"]), ("add", 1, num(1)), ("add", num(1), 1), ("times", "a", num(1)),
        ("times", num(1), "a"), ("add", (num(1), num(1))), (("num", 1), ("num", 1)),
    )
)

NO_STATEMENTS = (
    ANYTHING
    + tuple(("set", x, num(1)) for x in NO_NAMES)
    + tuple(("lap", x, num(1), row()) for x in NO_NAMES)
    + tuple(("lap", "a", num(1), thing) for thing in ANYTHING)
    + tuple(("lap", "a", num(1), ("row", thing)) for thing in NO_TUPLES)
    + (
        ("set",), ("set", "a"), ("set", "a", num(1), num(1)), ("set", num(1), "a"), ("set", name("a"), num(1)),
        ("say",), ("say", num(1), num(1)), ("say", "a"), ("say", 1), ("say", (num(1),)),
        ("lap",), ("lap", "a"), ("lap", "a", num(1)), ("lap", "a", row()), ("lap", "a", row(), num(1)),
        ("lap", "a", num(1), row(), row()), ("lap", "a", num(1), ()), ("lap", "a", num(1), put("a", 1)),
        ("lap", name("a"), num(1), row()), ("lap", "a", num(1), ("row",)), ("lap", "a", num(1), ("row", (), ())),
        ("lap", "a", num(1), ("row", [])), ("lap", "a", num(1), ["row", ()]), ("lap", "a", num(1), ("Row", ())),
        ["set", "a", num(1)], ["say", num(1)], ["lap", "a", num(1), row()],
        ("put", "a", num(1)), ("Set", "a", num(1)), ("set ", "a", num(1)), ("", "a", num(1)), ("tell", num(1)),
        ("while", "a", num(1), row()), ("fold", "a", num(1), row()), (None, "a", num(1)), (1, "a", num(1)),
        (("set",), "a", num(1)), (["set"], "a", num(1)), (Unequal(), "a", num(1)), (Equal(), "a", num(1)),
        ("row", ()), ("row", (put("a", 1),)), num(1), name("a"), add(1, 1), (put("a", 1),),
    )
)


class NeedProgram(unittest.TestCase):
    def good(self, program):
        self.assertIsNone(need_program(program), program)
        self.assertIsNone(need_program(program), program)

    def bad(self, program):
        for _ in range(2):
            with self.assertRaises(LapError) as caught:
                need_program(program)
            self.assertIs(caught.exception.__class__, BadForm)

    def bad_statement(self, statement):
        for levels in range(3):
            self.bad(within(levels, statement))
            self.bad(within(levels, put("a", 1), statement))
            self.bad(within(levels, statement, put("a", 1)))

    def test_the_refusal_is_of_its_own_kind(self):
        for catching in (BadForm, LapError, ValueError):
            with self.assertRaises(catching):
                need_program(None)
        for other in (Dry, NeedntFall, Uneven):
            with self.assertRaises(BadForm) as caught:
                need_program(("row", (put("A", 1),)))
            self.assertNotIsInstance(caught.exception, other)

    def test_good_programs(self):
        self.good(row())
        self.good(row(put("a", 1)))
        self.good(row(say("a")))
        self.good(row(lap("a")))
        self.good(row(put("a", add(1, times("b", 999))), say(add("a", "a")), lap("a", put("a", 0), measure="b")))
        self.good(row(lap("n", put("i", "n"), lap("i", grow("y", 1), measure="i"), say("y"), measure="n"), say("y")))

    def test_what_is_no_row(self):
        for thing in ANYTHING:
            self.bad(thing)
        for thing in (put("a", 1), say(1), lap("a"), num(1), (put("a", 1),), [put("a", 1)], ("row",), ("row", (), ()),
                      ("row", (put("a", 1),), ()), ("rows", ()), ("Row", ()), (b"row", ()), (["row"], ()),
                      (Equal(), ()), (Unequal(), ()), (("row",), ()), ("row", put("a", 1)), ("row", lap("a")),
                      (("row", ()),), ["row", (put("a", 1),)]):
            self.bad(thing)
        for thing in NO_TUPLES:
            self.bad(("row", thing))

    def test_no_statements(self):
        for statement in NO_STATEMENTS:
            self.bad_statement(statement)

    def test_a_list_of_statements(self):
        self.bad(("row", [put("a", 1)]))
        self.bad(("row", (("lap", "a", num(1), ("row", [put("a", 1)])),)))
        self.bad(("row", (lap("i", ("lap", "a", num(1), ("row", [put("a", 1)]))),)))

    def test_names(self):
        for x in NAMES:
            for levels in range(3):
                self.good(within(levels, ("set", x, ("name", x)), ("lap", x, ("name", x), row(say(("name", x))))))
        for x in NO_NAMES:
            self.bad_statement(("say", ("name", x)))
            self.bad_statement(("set", x, ("num", 1)))
            self.bad_statement(("lap", x, ("num", 1), row()))
            self.bad_statement(("lap", "a", ("name", x), row()))

    def test_numbers(self):
        for n in NUMBERS:
            for levels in range(3):
                parts = (("set", "a", ("num", n)), ("say", ("num", n)), ("lap", "a", ("num", n), row()))
                self.good(within(levels, *parts))
        for n in NO_NUMBERS:
            self.bad_statement(("say", ("num", n)))

    def test_no_expressions(self):
        for expression in NO_EXPRESSIONS:
            self.bad_statement(("set", "a", expression))
            self.bad_statement(("say", expression))
            self.bad_statement(("lap", "a", expression, row()))
            for word in ("add", "times"):
                self.bad(row(("say", (word, expression, num(1)))))
                self.bad(row(("say", (word, num(1), expression))))
                self.bad(row(("say", (word, num(1), (word, expression, num(1))))))

    def test_how_deep(self):
        for levels in range(1, 8):
            check = self.good if levels <= 5 else self.bad
            for outer in range(3):
                check(within(outer, ("set", "a", deep(levels))))
                check(within(outer, ("say", deep(levels))))
                check(within(outer, ("lap", "a", deep(levels), row())))
                check(within(outer, ("say", deep(levels, num(3)))))

    def test_deep_on_one_side_only(self):
        for word in ("add", "times"):
            self.good(row(("say", (word, num(1), deep(4)))))
            self.good(row(("say", (word, deep(4), num(1)))))
            self.good(row(("say", (word, deep(4), deep(4)))))
            self.bad(row(("say", (word, num(1), deep(5)))))
            self.bad(row(("say", (word, deep(5), num(1)))))

    def test_deep_beyond_all(self):
        self.bad(row(("say", deep(100000))))
        endless = row()
        for _ in range(100000):
            endless = row(("lap", "a", num(1), endless))
        self.bad(endless)

    def test_laps_within_one_another(self):
        for levels in range(6):
            check = self.good if levels <= 3 else self.bad
            check(within(levels))
            check(within(levels, put("a", 1)))
            check(row(put("a", 1), *within(levels, say("a"))[1], say(1)))
        self.good(row(*within(3)[1], *within(3)[1], *within(2)[1]))
        self.good(row(lap("a", lap("b", lap("c")), lap("b", lap("c"), lap("d"))), lap("a", lap("b", lap("c")))))
        self.bad(row(lap("a", lap("b", lap("c"), lap("c", lap("d"))))))
        self.bad(row(lap("a", lap("b", lap("c", put("a", 1), lap("d"))))))

    def test_how_many_statements(self):
        for kind in (put("a", 1), say(1), lap("a")):
            self.good(row(*[kind] * 39))
            self.good(row(*[kind] * 40))
            self.bad(row(*[kind] * 41))
            self.bad(row(*[kind] * 1000))

    def test_statements_in_laps_count_and_the_laps(self):
        for kind in (put("a", 1), say(1), lap("a")):
            for levels in range(1, 3):
                self.good(within(levels, *[kind] * (40 - levels)))
                self.bad(within(levels, *[kind] * (41 - levels)))
        self.good(within(3, *[put("a", 1)] * 37))
        self.bad(within(3, *[put("a", 1)] * 38))

    def test_statements_beside_laps_count(self):
        twenty = lap("a", *[say(1)] * 19)
        self.good(row(twenty, twenty))
        self.bad(row(twenty, twenty, say(1)))
        self.bad(row(say(1), twenty, twenty))
        self.bad(row(twenty, say(1), twenty))
        self.good(row(lap("b", twenty, *[say(1)] * 9), *[say(1)] * 10))
        self.bad(row(lap("b", twenty, *[say(1)] * 9), *[say(1)] * 11))
        self.bad(row(lap("b", *[say(1)] * 9, twenty, say(1)), *[say(1)] * 10))

    def test_far_too_many(self):
        inner = row(*[put("a", 1)] * 3000)
        for guard in ("b", "c", "d"):
            inner = row(*[("lap", guard, num(1), inner)] * 3000)
        self.bad(inner)

    def test_nothing_handed_in_is_changed(self):
        statement = ["set", "a", ["num", 1]]
        program = ["row", [statement]]
        kept = copy.deepcopy(program)
        self.bad(program)
        self.bad(("row", program))
        self.bad(("row", (statement,)))
        self.assertEqual(program, kept)


class NamesOf(unittest.TestCase):
    def check(self, program, names):
        for _ in range(2):
            told = names_of(program)
            self.assertIs(told.__class__, list)
            self.assertEqual(told, names)
            told.append("k")
            told.reverse()

    def test_none(self):
        self.check(row(), [])
        self.check(row(say(1), say(add(1, times(2, 3)))), [])

    def test_only_in_one_place(self):
        self.check(row(lap("a", measure="m")), ["a", "m"])
        self.check(row(lap("a", measure=3)), ["a"])
        self.check(row(say("s")), ["s"])
        self.check(row(put("x", 1)), ["x"])
        self.check(row(put("x", "y")), ["x", "y"])
        self.check(row(lap("a", put("x", 1))), ["a", "x"])
        self.check(row(lap("a", say("x"))), ["a", "x"])
        self.check(row(lap("a", lap("b", measure=add(1, "m")))), ["a", "b", "m"])

    def test_deep_in_expressions(self):
        self.check(row(say(add(1, times("q", add("c", times(2, "b")))))), ["b", "c", "q"])
        self.check(row(put("z", times(add("b", 1), "a"))), ["a", "b", "z"])
        self.check(row(lap("g", measure=add(times("m", "n"), 2))), ["g", "m", "n"])

    def test_rising_and_each_once(self):
        program = row(put("b", "a"), put("ab", "b"), put("aa", "ab"), lap("c", put("b", "c"), measure="a"), say("b"))
        self.check(program, ["a", "aa", "ab", "b", "c"])
        self.check(row(put("zzzzzzzz", "zz"), put("zzz", "abcdefgh")), ["abcdefgh", "zz", "zzz", "zzzzzzzz"])

    def test_laps_in_laps(self):
        self.check(within(3, put("x", "y")), ["i", "j", "k", "x", "y"])
        self.check(row(lap("z", lap("y", lap("x", say("w")), put("v", 1)), say("u")), put("t", "s")),
                   ["s", "t", "u", "v", "w", "x", "y", "z"])

    def test_words_of_the_form_as_names(self):
        self.check(row(put("set", "num"), lap("lap", say("say"), measure="name")), ["lap", "name", "num", "say", "set"])


class SumTold(unittest.TestCase):
    POINTS = (
        {}, {"a": 1}, {"a": 2, "b": 3}, {"a": 5, "b": 0, "c": 7}, {"b": 999, "c": 1}, {"a": 10 ** 30, "b": 4, "c": 2},
    )

    def by_hand(self, expression, names):
        if expression[0] == "num":
            return expression[1]
        if expression[0] == "name":
            return names.get(expression[1], 0)
        one, other = (self.by_hand(part, names) for part in expression[1:])
        return one + other if expression[0] == "add" else one * other

    def expressions(self):
        found = [num(0), num(1), num(999), name("a"), name("b"), name("c")]
        for _ in range(2):
            fewer = found[:6] + found[6::5]
            found = found[:6] + [reckon(one, other) for one in fewer for other in fewer for reckon in (add, times)]
        return found

    def test_at_several_points(self):
        for expression in self.expressions():
            told = sum_told(expression)
            self.assertEqual(faults_of(told), [])
            for names in self.POINTS:
                self.assertEqual(worth(told, names), (self.by_hand(expression, names), 1), (expression, names))

    def test_as_deep_as_may_be(self):
        for levels in range(1, 8):
            told = sum_told(deep(levels))
            for names in self.POINTS:
                self.assertEqual(worth(told, names), (self.by_hand(deep(levels), names), 1))

    def test_written_out(self):
        self.assertEqual(sum_told(num(0)).parts, {})
        self.assertEqual(sum_told(num(7)).parts, {(): (7, 1)})
        self.assertEqual(sum_told(name("abcdefgh")).parts, {(("abcdefgh", 1),): (1, 1)})
        self.assertEqual(sum_told(add("b", "a")).parts, {(("a", 1),): (1, 1), (("b", 1),): (1, 1)})
        self.assertEqual(sum_told(add("a", "a")).parts, {(("a", 1),): (2, 1)})
        self.assertEqual(sum_told(times("b", "a")).parts, {(("a", 1), ("b", 1)): (1, 1)})
        self.assertEqual(sum_told(times("a", "a")).parts, {(("a", 2),): (1, 1)})
        self.assertEqual(sum_told(times(0, "a")).parts, {})
        self.assertEqual(sum_told(add(0, 0)).parts, {})
        square = times(add("a", 1), add("a", 1))
        self.assertEqual(sum_told(square).parts, {(("a", 2),): (1, 1), (("a", 1),): (2, 1), (): (1, 1)})

    def test_a_product_of_sixteen(self):
        sixteen = add("a", "b")
        for _ in range(3):
            sixteen = times(sixteen, sixteen)
        self.assertEqual(sum_told(sixteen).parts[(("a", 4), ("b", 4))], (70, 1))
        self.assertTrue(same(sum_told(times(sixteen, 1)), sum_told(sixteen)))

    def test_what_is_given_back_may_be_changed(self):
        for expression in (num(3), name("a"), add("a", 1), times("a", "b")):
            told = sum_told(expression)
            self.assertIs(told.__class__, Sum)
            kept = dict(told.parts)
            told.parts.clear()
            self.assertEqual(sum_told(expression).parts, kept)

    def test_the_same_expression_in_two_places(self):
        inner = of("a")
        self.assertEqual(sum_told(add(inner, times(inner, inner))).parts, {(("a", 1),): (1, 1), (("a", 2),): (1, 1)})


if __name__ == "__main__":
    unittest.main()
