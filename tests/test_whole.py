"""Over the whole program: refusals, the same asked again, nothing handed in changed, names otherwise called."""

import copy
import unittest

from lapfold.changes import done_by
from lapfold.counting import count_of, ends_of
from lapfold.errors import BadForm, Dry, LapError, NeedntFall, Uneven
from lapfold.falls import looked
from lapfold.folds import value, written
from lapfold.forms import names_of, need_program, sum_told
from lapfold.plain import ran
from lapfold.sums import Sum, is_natural, lessened, put_in, same, sum_of_name, sum_of_number, totalled, worth
from program_helps import BROKEN, Chances, add, grow, lap, lapped_row, put, row, say, times

EVEN = row(
    put("z", add("y", 2)), say("z"),
    lap("n", put("i", "n"), lap("i", grow("y", "n"), measure="i"), say("y"), measure=add("n", "m")),
)
UNEVEN = row(lap("n", put("n", 0), grow("y", 1), measure="n"))
NEED_NOT = row(say(1), lap("n", say("n"), measure=3))
ENDLESS = row(put("n", 1), lap("n", put("n", 1), measure="n"))


def called(thing, new):
    """The program or expression with its names told by others."""
    if thing[0] == "name":
        return ("name", new[thing[1]])
    if thing[0] in ("set", "lap"):
        return (thing[0], new[thing[1]]) + tuple(called(part, new) for part in thing[2:])
    if thing[0] == "row":
        return ("row", tuple(called(part, new) for part in thing[1]))
    if thing[0] == "num":
        return thing
    return (thing[0],) + tuple(called(part, new) for part in thing[1:])


def parts_called(parts, new):
    return {tuple(sorted((new[x], power) for x, power in product)): part for product, part in parts.items()}


def answer(ask):
    """What was answered, or by what it was refused."""
    try:
        told = ask()
    except LapError as refusal:
        return (refusal.__class__, getattr(refusal, "place", None))
    if isinstance(told, Sum):
        return told.parts
    if isinstance(told, dict):
        return {x: part.parts if isinstance(part, Sum) else part for x, part in told.items()}
    return told


ASKED = {
    "looked": lambda: looked(EVEN),
    "count": lambda: count_of(EVEN),
    "ends": lambda: ends_of(EVEN),
    "done": lambda: done_by(EVEN),
    "written": lambda: written(EVEN),
    "ran": lambda: ran(EVEN, {"n": 3, "m": 1}, 6),
    "value": lambda: value(written(EVEN), (0, 1, 3, 0, 0, [])),
    "names": lambda: names_of(EVEN),
    "need": lambda: need_program(EVEN),
    "told": lambda: sum_told(add("a", times("a", "b"))),
    "uneven ends": lambda: ends_of(UNEVEN),
}
REFUSED = (
    (BadForm, lambda: need_program(("row", (put("A", 1),)))),
    (BadForm, lambda: looked(("row", (put("A", 1),)))),
    (BadForm, lambda: written(("row", [put("a", 1)]))),
    (Dry, lambda: ran(EVEN, {"n": 3, "m": 1}, 5)),
    (Dry, lambda: ran(ENDLESS, {}, 20)),
    (NeedntFall, lambda: looked(NEED_NOT)),
    (NeedntFall, lambda: written(NEED_NOT)),
    (Uneven, lambda: count_of(UNEVEN)),
    (Uneven, lambda: count_of(ENDLESS)),
)
KINDS = (BadForm, Dry, NeedntFall, Uneven)


class Refusals(unittest.TestCase):
    def test_each_is_of_its_own_kind(self):
        for kind, ask in REFUSED:
            with self.assertRaises(ValueError) as caught:
                ask()
            self.assertIsInstance(caught.exception, LapError)
            for other in KINDS:
                self.assertEqual(isinstance(caught.exception, other), other is kind, (kind, other))

    def test_places(self):
        for kind, ask in REFUSED:
            if kind in (NeedntFall, Uneven):
                with self.assertRaises(kind) as caught:
                    ask()
                self.assertIs(caught.exception.place.__class__, tuple)
                self.assertTrue(all(at.__class__ is int for at in caught.exception.place))

    def test_all_that_is_no_program(self):
        for thing in BROKEN:
            for ask in (need_program, looked, written):
                self.assertEqual(answer(lambda: ask(thing)), (BadForm, None), thing)

    def test_between_two_askings_of_the_same(self):
        for word, ask in ASKED.items():
            wanted = copy.deepcopy(answer(ask))
            self.assertEqual(answer(ask), wanted, word)
            for kind, refused in REFUSED:
                self.assertIs(answer(refused)[0], kind)
                self.assertEqual(answer(ask), wanted, (word, kind))
                self.assertEqual(answer(refused), answer(refused))


class Unchanged(unittest.TestCase):
    def test_programs(self):
        for program in (EVEN, UNEVEN, NEED_NOT, ENDLESS):
            kept = copy.deepcopy(program)
            for ask in (need_program, looked, count_of, ends_of, done_by, written, names_of):
                answer(lambda: ask(program))
            answer(lambda: ran(program, {"n": 3}, 20))
            self.assertEqual(program, kept)

    def test_what_is_given_back_may_be_changed(self):
        for word, ask in ASKED.items():
            if answer(ask) is None:
                continue
            wanted = copy.deepcopy(answer(ask))
            self.spoil(ask())
            self.assertEqual(answer(ask), wanted, word)

    def spoil(self, thing):
        """Changes all that can be changed in what was given back."""
        if isinstance(thing, Sum):
            thing.parts.clear()
            thing.parts[()] = (99, 1)
        elif isinstance(thing, dict):
            for part in thing.values():
                self.spoil(part)
            thing.clear()
        elif isinstance(thing, (list, tuple)):
            for part in thing:
                self.spoil(part)
            if isinstance(thing, list):
                thing.append(99)


class OtherwiseCalled(unittest.TestCase):
    WAYS = (
        {"a": "b", "b": "c", "c": "d", "n": "o", "i": "p", "j": "q"},
        {"a": "z", "b": "y", "c": "x", "n": "c", "i": "b", "j": "a"},
        {"a": "n", "b": "i", "c": "j", "n": "a", "i": "c", "j": "b"},
        {"a": "turn", "b": "blurred", "c": "the", "n": "name", "i": "row", "j": "lap"},
    )

    def check(self, program, new, at):
        other = called(program, new)
        other_at = {new[x]: n for x, n in at.items()}
        self.assertEqual(sorted(names_of(other)), sorted(new[x] for x in names_of(program)))
        ends, other_ends = ends_of(program), ends_of(other)
        self.assertEqual({new[x]: parts_called(ends[x].parts, new) for x in ends},
                         {x: other_ends[x].parts for x in other_ends})
        self.assertEqual(answer(lambda: looked(program)), answer(lambda: looked(other)))
        count = answer(lambda: count_of(program))
        if isinstance(count, dict):
            count = parts_called(count, new)
        self.assertEqual(count, answer(lambda: count_of(other)))
        try:
            told, names, turns, entries = ran(program, at, 100)
        except Dry:
            self.assertRaises(Dry, ran, other, other_at, 100)
            return
        self.assertEqual((told, {new[x]: n for x, n in names.items()}, turns, entries), ran(other, other_at, 100))

    def test_programs(self):
        for seed in range(200):
            chances = Chances(seed)
            program = lapped_row(chances, "abc", "nij", 4)
            for new in self.WAYS:
                self.check(program, new, {x: chances.below(4) for x in names_of(program)})


class AllTogether(unittest.TestCase):
    """What is let by ends, within its measures; run, fold, count and ends tell the same."""

    def test_programs(self):
        together = 0
        for seed in range(400):
            chances = Chances(seed + 1000)
            program = lapped_row(chances, "abc", "nij", 4)
            if answer(lambda: looked(program)) is not None or isinstance(answer(lambda: count_of(program)), tuple):
                continue
            names = names_of(program)
            at = {x: chances.below(4) for x in names}
            count = worth(count_of(program), at)
            self.assertEqual(count[1], 1)
            if count[0] > 300:
                continue
            together += 1
            told, behind, turns, entries = ran(program, at, count[0])
            self.assertEqual(turns, count[0])
            self.assertEqual(sum(many for _, _, many in entries), turns)
            self.assertTrue(all(many <= measure for _, measure, many in entries))
            self.assertEqual(value(written(program), tuple(at[x] for x in names) + ([],)),
                             tuple(behind[x] for x in names) + (told,))
            for x, ends in ends_of(program).items():
                self.assertEqual(worth(ends, at), (behind[x], 1))
        self.assertGreater(together, 100)

    def test_a_lap_that_falls_falls_by_one_at_least(self):
        """The measure's sum, less itself behind a turn, at inputs of four and twenty figures."""
        n = 999999999999999999999999
        body = row(put("i", "n"), lap("i", grow("y", 1), measure="i"))
        measure = add(times("n", add("n", 1)), "y")
        self.assertIsNone(looked(row(("lap", "n", measure, body))))
        told = sum_told(measure)
        ahead = put_in(told, {"n": lessened(sum_of_name("n"), sum_of_number(-1))})
        rest = lessened(ahead, put_in(told, done_by(body)))
        self.assertTrue(is_natural(rest))
        self.assertGreaterEqual(worth(rest, {"n": n, "y": n})[0], 1)

    def test_a_count_by_the_sums_of_powers(self):
        """Laps one behind another in a lap, counted by hand."""
        n = sum_of_name("n")
        program = row(lap("n", put("i", times("n", "n")), lap("i", grow("y", 1))), lap("y"))
        squares = totalled(put_in(sum_told(times("x", "x")), {}), "x", n)
        wanted = put_in(sum_told(add("n", add("q", add("q", "y")))), {"q": squares})
        self.assertTrue(same(count_of(program), wanted))


if __name__ == "__main__":
    unittest.main()
