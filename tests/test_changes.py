"""lapfold.changes: what a row does, told as sums of what the names are ahead of it."""

import unittest

from lapfold.changes import done_by
from lapfold.errors import Dry
from lapfold.forms import names_of, sum_told
from lapfold.plain import ran
from lapfold.sums import Sum, names_in, put_in, same, sum_of_name, worth
from program_helps import Chances, add, even_row, grow, lap, points, put, row, say, some_row, times
from sum_helps import faults_of

NAMES = ("a", "b", "c", "d")


class DoneTest(unittest.TestCase):
    def ends(self, program, names, most=20000):
        return ran(program, names, most)[1]

    def check(self, program, out=(), numbers=(0, 1, 2, 3, 5)):
        """All names but those in out are told, and so as the runs from several points tell it."""
        told = done_by(program)
        names = names_of(program)
        self.assertIs(told.__class__, dict)
        self.assertEqual(sorted(told), [x for x in names if x not in out], program)
        self.assertEqual([fault for x in told for fault in faults_of(told[x])], [])
        for at in points(names, numbers):
            ends = self.ends(program, at)
            for x in told:
                self.assertEqual(worth(told[x], at), (ends[x], 1), (program, at, x))
        return told

    def told(self, program, x, parts, out=()):
        self.assertEqual(self.check(program, out)[x].parts, parts)


class WithoutLaps(DoneTest):
    def test_nothing(self):
        self.assertEqual(done_by(row()), {})
        self.check(row(say(5)))

    def test_names_that_are_only_read(self):
        told = self.check(row(say("a"), put("b", add("c", 1))))
        self.assertEqual(sorted(told), ["a", "b", "c"])
        self.assertEqual(told["a"].parts, {(("a", 1),): (1, 1)})
        self.assertEqual(told["c"].parts, {(("c", 1),): (1, 1)})

    def test_a_number(self):
        self.told(row(put("a", 7)), "a", {(): (7, 1)})
        self.told(row(put("a", 0)), "a", {})

    def test_set_by_others(self):
        self.told(row(put("a", add("b", times("c", 2)))), "a", {(("b", 1),): (1, 1), (("c", 1),): (2, 1)})

    def test_set_by_itself(self):
        self.told(row(grow("a", 1)), "a", {(("a", 1),): (1, 1), (): (1, 1)})
        self.told(row(put("a", times("a", "a")), put("a", times("a", "a"))), "a", {(("a", 4),): (1, 1)})
        self.told(row(put("a", "a")), "a", {(("a", 1),): (1, 1)})

    def test_swapped_by_a_third(self):
        told = self.check(row(put("c", "a"), put("a", "b"), put("b", "c")))
        self.assertEqual(told["a"].parts, {(("b", 1),): (1, 1)})
        self.assertEqual(told["b"].parts, {(("a", 1),): (1, 1)})
        self.assertEqual(told["c"].parts, {(("a", 1),): (1, 1)})

    def test_one_behind_another(self):
        self.check(row(put("a", "b"), put("b", "a"), grow("c", "b"), put("a", times("c", "c")), grow("b", "a")))
        self.told(row(put("a", 2), put("a", add("a", "b")), put("a", times("a", 3))), "a",
                  {(("b", 1),): (3, 1), (): (6, 1)})

    def test_what_is_told_changes_nothing(self):
        self.assertEqual(done_by(row(say("a"), put("b", "a"), say("b")))["b"].parts, {(("a", 1),): (1, 1)})

    def test_set_again(self):
        self.told(row(put("a", "b"), put("b", 4), put("a", add("a", "b"))), "a", {(("b", 1),): (1, 1), (): (4, 1)})

    def test_expressions_as_deep_as_may_be(self):
        sixteen = add("a", "b")
        for _ in range(3):
            sixteen = times(sixteen, sixteen)
        told = self.check(row(put("c", times(sixteen, 1)), put("a", "c")))
        self.assertTrue(same(told["a"], sum_told(sixteen)))

    def test_large_powers(self):
        squared = [put("b", times("b", "b"))] * 38
        told = self.check(row(put("b", "a"), *squared), numbers=(0, 1))
        self.assertEqual(told["b"].parts, {(("a", 2 ** 38),): (1, 1)})


class EvenLaps(DoneTest):
    def test_the_guard_is_nought_behind_it(self):
        for program in (row(lap("n")), row(lap("n", grow("a", 1))), row(put("n", 3), lap("n", say("n"))),
                        row(lap("n", put("n", "n")))):
            self.told(program, "n", {})

    def test_names_that_the_row_does_not_change(self):
        told = self.check(row(lap("n", say("a"), grow("y", "b"), put("c", "c"), measure="m")))
        for x in ("a", "b", "c", "m"):
            self.assertEqual(told[x].parts, {((x, 1),): (1, 1)})

    def test_names_that_are_themselves_behind_the_row(self):
        swapped = [put("a", add("a", "b")), put("c", "a"), put("a", 0), put("a", "b")]
        self.check(row(lap("n", *swapped)), out=("a", "c"))
        self.told(row(lap("n", put("q", "a"), put("a", 0), put("a", "q"), grow("y", "a"))), "y",
                  {(("y", 1),): (1, 1), (("a", 1), ("n", 1)): (1, 1)}, out=("q",))

    def test_growing_by_a_number(self):
        self.told(row(lap("n", grow("y", 3))), "y", {(("y", 1),): (1, 1), (("n", 1),): (3, 1)})
        self.told(row(lap("n", grow("y", 0))), "y", {(("y", 1),): (1, 1)})

    def test_growing_by_a_name(self):
        self.told(row(lap("n", grow("y", "a"))), "y", {(("y", 1),): (1, 1), (("a", 1), ("n", 1)): (1, 1)})

    def test_growing_by_products(self):
        self.check(row(lap("n", grow("y", times("a", times("a", "b"))), grow("z", times(3, times("b", "b"))))))

    def test_growing_by_the_guard(self):
        self.told(row(lap("n", grow("y", "n"))), "y",
                  {(("y", 1),): (1, 1), (("n", 2),): (1, 2), (("n", 1),): (-1, 2)})
        self.check(row(lap("n", grow("y", times("n", times("n", "n"))), grow("z", times("n", "a")))))

    def test_growing_by_growing_ones(self):
        self.check(row(lap("n", grow("a", 1), grow("b", "a"), grow("c", "b"), grow("d", "c"))))
        self.check(row(lap("n", grow("d", "c"), grow("c", "b"), grow("b", "a"), grow("a", 1))))
        self.check(row(lap("n", grow("b", "a"), grow("d", "c"), grow("a", 2), grow("c", "b"))))
        self.check(row(lap("n", grow("a", "b"), grow("b", "c"), grow("c", "d"), grow("d", "n"))))
        self.check(row(lap("a", grow("d", "a"), grow("c", "d"), grow("b", times("c", "c")), grow("e", "b"))))
        self.told(row(lap("n", grow("b", "a"), grow("a", 1))), "b",
                  {(("b", 1),): (1, 1), (("a", 1), ("n", 1)): (1, 1), (("n", 2),): (1, 2), (("n", 1),): (-1, 2)})
        self.told(row(lap("n", grow("a", 1), grow("b", "a"))), "b",
                  {(("b", 1),): (1, 1), (("a", 1), ("n", 1)): (1, 1), (("n", 2),): (1, 2), (("n", 1),): (1, 2)})

    def test_growing_by_products_of_growing_ones(self):
        self.check(row(lap("n", grow("a", 1), grow("b", times("a", "n")), grow("c", times("b", add("a", "b"))))))
        self.check(row(lap("n", grow("c", times("b", "b")), grow("b", times("a", "a")), grow("a", "n"))))

    def test_growing_in_two_steps(self):
        self.check(row(lap("n", grow("y", "a"), grow("y", "b"), grow("y", "n"))))
        self.check(row(lap("n", put("q", "n"), grow("y", times("q", "q")), put("q", 0))), out=("q",))

    def test_growing_by_itself_is_not_told(self):
        self.check(row(lap("n", grow("y", "y"))), out=("y",), numbers=(0, 1, 2))
        self.check(row(lap("n", put("y", times("y", 2)))), out=("y",))
        self.check(row(lap("n", put("y", times("y", "a")))), out=("y",), numbers=(0, 1, 2))
        self.check(row(lap("n", grow("y", times("y", "a")))), out=("y",), numbers=(0, 1, 2))
        self.check(row(lap("n", grow("a", "b"), grow("b", "a"))), out=("a", "b"))

    def test_by_what_is_not_told(self):
        program = row(lap("n", grow("y", "y"), grow("a", "y"), grow("b", "a")))
        self.check(program, out=("a", "b", "y"), numbers=(0, 1, 2))

    def test_a_guard_that_is_set_to_itself(self):
        self.check(row(lap("n", put("n", "n"), grow("y", "n"))))
        self.check(row(lap("n", put("q", "n"), put("n", 5), grow("y", "n"), put("n", "q"))), out=("q",))

    def test_a_count_of_products_and_sums(self):
        self.check(row(put("n", add("a", times("b", 2))), lap("n", grow("y", "n"), grow("z", "y"))))
        self.check(row(put("n", times("a", "b")), lap("n", grow("y", times("n", "a")))))
        self.told(row(put("n", 4), lap("n", grow("y", "n"))), "y", {(("y", 1),): (1, 1), (): (6, 1)})
        self.told(row(put("n", 0), lap("n", grow("y", "a"))), "y", {(("y", 1),): (1, 1)})

    def test_sums_from_ahead_of_the_lap(self):
        self.told(row(put("a", add("b", 1)), lap("n", grow("y", "a"))), "y",
                  {(("y", 1),): (1, 1), (("b", 1), ("n", 1)): (1, 1), (("n", 1),): (1, 1)})
        self.check(row(put("y", "a"), put("a", "n"), lap("n", grow("y", "a"), grow("a", "n")), grow("y", "a")))

    def test_the_guard_copied_ahead(self):
        self.check(row(put("a", "n"), lap("n", grow("y", times("a", "n")))))
        self.check(row(put("n", "a"), lap("n", grow("a", "n"))))

    def test_one_behind_another(self):
        self.check(row(lap("a", grow("b", 1)), lap("b", grow("c", 1)), put("a", "c"), lap("c", grow("d", "a"))))
        self.check(row(put("q", "n"), lap("n", grow("y", "n")), put("n", "q"), lap("n", grow("z", "y"))))

    def test_a_count_with_shares_that_are_not_whole(self):
        self.check(row(lap("n", grow("m", "n")), lap("m", grow("y", "m"))), numbers=(0, 1, 2, 3, 4))

    def test_large_powers(self):
        statements = [put("b", "a")] + [put("b", times("b", "b"))] * 36 + [grow("y", "b")]
        told = self.check(row(put("n", add("n", 1)), lap("n", *statements)), numbers=(0, 1))
        self.assertEqual(told["b"].parts, {(("a", 2 ** 36),): (1, 1)})
        self.check(row(put("a", "c"), lap("n", *statements)), out=("b",), numbers=(0, 1))
        self.check(row(put("a", 0), lap("n", *statements)), out=("b",), numbers=(0, 1))


class SetAnew(DoneTest):
    def test_surely_one_turn_or_more(self):
        self.told(row(put("n", add("n", 1)), lap("n", put("y", "a"))), "y", {(("a", 1),): (1, 1)})
        self.told(row(put("n", 1), lap("n", put("y", 6))), "y", {(): (6, 1)})
        self.told(row(put("n", 2), lap("n", put("y", 0))), "y", {})

    def test_perhaps_no_turn(self):
        self.check(row(lap("n", put("y", "a"))), out=("y",))
        self.check(row(lap("n", put("y", 6))), out=("y",))
        self.check(row(put("n", times("a", 3)), lap("n", put("y", "a"))), out=("y",))
        self.check(row(put("n", 0), lap("n", put("y", "a"))), out=("y",))

    def test_the_constant_tells(self):
        for constant, out in ((0, ("y",)), (1, ()), (2, ()), (999, ())):
            self.check(row(put("n", add(times("a", "b"), constant)), lap("n", put("y", "n"))), out=out,
                       numbers=(0, 1, 2))

    def test_a_count_with_a_share_below_nought_does_not_tell(self):
        program = row(lap("k", grow("n", "k")), grow("n", 5), lap("n", put("y", 3)))
        self.check(program, out=("y",))
        self.check(row(put("k", add("k", 1)), lap("k", grow("n", add("k", 1))), grow("n", 1), lap("n", put("y", 3))))

    def test_the_last_turn(self):
        one_more = put("n", add("n", 1))
        self.told(row(one_more, lap("n", put("y", "n"))), "y", {})
        self.told(row(one_more, lap("n", put("y", add("a", times("n", "b"))))), "y", {(("a", 1),): (1, 1)})
        self.told(row(one_more, lap("n", put("y", "a"), grow("a", 1))), "y", {(("a", 1),): (1, 1), (("n", 1),): (1, 1)})
        self.told(row(one_more, lap("n", grow("a", 1), put("y", "a"))), "y",
                  {(("a", 1),): (1, 1), (("n", 1),): (1, 1), (): (1, 1)})
        self.check(row(one_more, lap("n", grow("a", "n"), put("y", times("a", add("n", 2))), grow("b", "a"))))

    def test_growing_by_what_is_set_anew_ahead_in_the_row(self):
        self.check(row(lap("n", put("y", add("n", 1)), grow("z", times("y", "y")))), out=("y",))
        self.check(row(put("n", add("n", 1)), lap("n", put("y", add("n", 1)), grow("z", times("y", "y")))))

    def test_it_is_not_told_in_the_turns(self):
        self.check(row(put("n", add("n", 1)), lap("n", grow("z", "y"), put("y", "a"))), out=("z",))
        self.check(row(put("n", add("n", 1)), lap("n", put("z", "y"), put("y", "a"))), out=("z",))
        self.check(row(put("n", 3), lap("n", put("a", "b"), put("b", "c"), put("c", "d"))), out=("a", "b"))

    def test_by_what_grows_by_itself(self):
        program = row(put("n", add("n", 1)), lap("n", put("y", "a"), grow("a", "a")))
        self.check(program, out=("a", "y"), numbers=(0, 1, 2))

    def test_told_behind_it_and_used(self):
        set_anew = lap("n", put("y", add("n", "b")))
        self.check(row(put("n", add("a", 2)), set_anew, grow("y", 1), lap("y", grow("z", "b"))))


class UnevenLaps(DoneTest):
    def test_all_that_it_may_set_is_left_out(self):
        self.check(row(lap("n", put("n", 0), put("y", 1), grow("z", "a"))), out=("y", "z"))
        self.check(row(lap("n", put("n", "m"), put("m", 0), grow("y", 1))), out=("m", "y"))

    def test_the_guard_is_nought(self):
        self.told(row(lap("n", put("n", 0))), "n", {})
        self.told(row(put("n", 3), lap("n", put("m", 1), put("n", 0))), "n", {}, out=("m",))
        self.told(row(lap("n", lap("n", grow("y", 1)))), "n", {}, out=("y",))

    def test_what_it_only_reads_is_told(self):
        told = self.check(row(lap("n", say("a"), put("n", 0), put("y", "b"), measure="m")), out=("y",))
        for x in ("a", "b", "m"):
            self.assertEqual(told[x].parts, {((x, 1),): (1, 1)})

    def test_names_that_are_themselves_behind_its_row(self):
        self.check(row(lap("n", put("n", 0), put("y", "y"))), out=("y",))
        self.check(row(lap("n", put("q", "y"), put("y", 7), put("y", "q"), put("n", 0))), out=("q", "y"))

    def test_guards_of_inner_laps(self):
        self.check(row(lap("n", lap("i", put("n", 0)))), out=("i",), numbers=(0, 1, 2))
        self.check(row(lap("n", put("n", 0), lap("i", grow("y", 1)))), out=("i", "y"))
        self.check(row(lap("n", put("n", 0), lap("i", lap("j", put("z", 2))))), out=("i", "j", "z"))

    def test_a_row_that_lessens_the_guard_by_an_inner_lap(self):
        self.check(row(put("n", 5), lap("n", put("k", 1), lap("k", put("n", 0)))), out=("k",), numbers=(0, 1, 2))

    def test_a_guard_that_is_blurred_in_the_row(self):
        self.check(row(lap("n", lap("k", put("k", 0), put("n", 0)), grow("y", 1))), out=("k", "y"))

    def test_a_blurred_name_that_is_set_anew_is_told(self):
        program = row(lap("n", put("n", 0), put("y", 1)), put("y", add("a", 2)))
        self.told(program, "y", {(("a", 1),): (1, 1), (): (2, 1)})
        self.check(row(lap("n", put("n", 0), put("y", 1)), put("m", add("a", 1)), lap("m", put("y", "m"))))
        self.told(row(lap("n", put("n", 0), put("y", 1)), lap("y", grow("z", 1))), "y", {}, out=("z",))

    def test_what_hangs_on_blurred_ones_is_left_out(self):
        blurred = lap("n", put("n", 0), put("y", 1))
        self.check(row(blurred, put("z", "y")), out=("y", "z"))
        self.check(row(blurred, put("z", add("a", times("b", "y")))), out=("y", "z"))
        self.check(row(blurred, put("z", "y"), put("x", "z"), put("w", "x")), out=("w", "x", "y", "z"))
        self.check(row(blurred, put("y", add("y", 1))), out=("y",))
        self.check(row(put("z", "y"), blurred), out=("y",))
        self.check(row(blurred, put("z", "y"), put("z", "n")), out=("y",))
        self.check(row(blurred, put("z", "y"), put("y", 3)), out=("z",))

    def test_what_has_a_blurred_name_but_not_in_its_sum(self):
        blurred = lap("n", put("n", 0), put("y", 1))
        self.told(row(blurred, put("z", add("a", times(0, "y")))), "z", {(("a", 1),): (1, 1)}, out=("y",))

    def test_in_an_even_lap_behind_it(self):
        blurred = lap("n", put("n", 0), put("y", 1))
        self.check(row(blurred, lap("k", grow("z", "y"), grow("w", "a"))), out=("y", "z"))
        self.check(row(blurred, lap("k", grow("y", "a"))), out=("y",))
        self.check(row(blurred, put("k", add("k", 1)), lap("k", put("z", "y"), put("w", "a"))), out=("y", "z"))
        self.check(row(blurred, put("k", add("k", 1)), lap("k", put("y", "a"))))
        self.check(row(blurred, lap("k", grow("a", "y"), grow("b", "a"), grow("c", 1))), out=("a", "b", "y"))

    def test_a_blurred_count(self):
        blurred = lap("n", put("n", 0), put("y", 1))
        told = self.check(row(blurred, lap("y", grow("z", 1), put("w", 2), say("a"), put("b", "b"))), out=("w", "z"))
        self.assertEqual(told["y"].parts, {})
        self.assertEqual(told["a"].parts, {(("a", 1),): (1, 1)})
        self.assertEqual(told["b"].parts, {(("b", 1),): (1, 1)})
        self.check(row(blurred, grow("y", 1), lap("y", put("w", 2))), out=("w",))
        self.check(row(blurred, put("k", "y"), lap("k", put("w", 2), grow("z", "k"))), out=("w", "y", "z"))

    def test_the_guard_may_be_used_behind_it(self):
        self.told(row(lap("n", put("n", 0)), put("y", add("n", 3)), grow("n", "y")), "n", {(): (3, 1)})


class WhatHangsOnBlurredNames(DoneTest):
    """A name hangs on a blurred one where that is left in its sum when all has been put in."""

    BLURS = lap("b", put("w", 1))

    def left_out(self, *statements):
        """The names that are not told behind the statements, w being blurred ahead of them."""
        program = row(self.BLURS, *statements)
        return [x for x in names_of(program) if x not in done_by(program)]

    def as_alone(self, *statements):
        """Behind the lap that blurs w all is told that is told of the statements alone, but for what has w in it."""
        alone = done_by(row(*statements))
        out = [x for x in names_of(row(*statements)) if x not in alone or "w" in names_in(alone[x])]
        told = self.check(row(self.BLURS, *statements), out=["w"] + out, numbers=(0, 1, 2))
        for x in told:
            if x != "b":
                self.assertTrue(same(told[x], alone[x]), (statements, x))
        return told

    def test_a_lap_without_turns(self):
        told = self.as_alone(put("g", 0), lap("g", grow("h", "w"), grow("k", times("w", "w"))))
        self.assertEqual(told["h"].parts, {(("h", 1),): (1, 1)})
        self.as_alone(put("g", 0), lap("g", put("i", add("g", 1)), lap("i", grow("h", "w"))))
        self.as_alone(put("g", times(0, "a")), lap("g", grow("h", "w")))
        self.assertEqual(self.left_out(put("g", 1), lap("g", grow("h", "w"))), ["h", "w"])
        self.assertEqual(self.left_out(put("g", "a"), lap("g", grow("h", "w"))), ["h", "w"])

    def test_a_lap_without_turns_as_the_guard_was_nought(self):
        self.as_alone(put("k", 0), put("g", times("k", "w")), lap("g", grow("h", "w")))

    def test_one_turn_in_which_an_inner_lap_has_none(self):
        inner = lap("i", grow("h", "w"))
        told = self.as_alone(put("g", 1), lap("g", put("i", "g"), inner))
        self.assertEqual(told["h"].parts, {(("h", 1),): (1, 1)})
        self.as_alone(put("g", 1), lap("g", put("i", times(3, "g")), inner))
        self.as_alone(put("g", 1), lap("g", put("i", times("g", "a")), inner))
        self.assertEqual(self.left_out(put("g", 2), lap("g", put("i", "g"), inner)), ["h", "w"])
        self.assertEqual(self.left_out(put("g", 1), lap("g", put("i", add("g", 1)), inner)), ["h", "w"])
        self.assertEqual(self.left_out(lap("g", put("i", "g"), inner)), ["h", "i", "w"])

    def test_two_turns_in_which_no_other_one_lies(self):
        """Of the turns taken three at once by the guard and by what is below it there are none in two turns."""
        lowest = lap("j", grow("h", "w"))
        laps = lap("g", put("i", "g"), lap("i", put("j", "i"), lowest))
        told = self.as_alone(put("g", 2), laps)
        self.assertEqual(told["h"].parts, {(("h", 1),): (1, 1)})
        self.as_alone(put("g", 1), laps)
        self.assertEqual(self.left_out(put("g", 3), laps), ["h", "j", "w"])

    def test_a_name_that_is_known_to_be_nought(self):
        told = self.as_alone(put("k", 0), put("z", times("k", "w")), put("y", add("a", times("w", times("w", "k")))))
        self.assertEqual((told["z"].parts, told["y"].parts), ({}, {(("a", 1),): (1, 1)}))
        self.as_alone(put("k", 0), lap("g", grow("h", times("k", "w")), grow("z", 1)))
        self.as_alone(lap("k"), put("z", times("k", "w")))
        self.assertEqual(self.left_out(put("k", 1), put("z", times("k", "w"))), ["w", "z"])

    def test_as_often_as_a_blurred_name_tells(self):
        told = self.as_alone(put("k", 0), put("g", "w"), lap("g", grow("h", "k"), grow("z", 1)))
        self.assertEqual(told["h"].parts, {(("h", 1),): (1, 1)})
        self.assertNotIn("z", told)

    def test_what_is_set_anew_in_the_last_turn(self):
        told = self.as_alone(put("g", add("a", 1)), lap("g", put("y", add("a", times("g", "w")))))
        self.assertEqual(told["y"].parts, {(("a", 1),): (1, 1)})
        set_anew = (put("y", times("k", "w")), put("z", times("g", times("w", 5))))
        self.as_alone(put("g", 3), put("k", 0), lap("g", *set_anew))
        self.assertEqual(self.left_out(put("g", 2), lap("g", put("y", times(add("g", 1), "w")))), ["w", "y"])

    def test_it_is_no_longer_blurred_when_nothing_is_left_of_it(self):
        statements = (put("k", 0), put("z", times("k", "w")), put("w", "z"), lap("g", grow("h", "w"), grow("y", "a")))
        self.assertEqual(self.left_out(*statements), [])
        self.assertEqual(self.check(row(self.BLURS, *statements))["h"].parts, {(("h", 1),): (1, 1)})

    def test_what_is_not_told_in_the_turns(self):
        """This is no matter of the names ahead of the lap: a growing name hangs on it in a lap without turns, too."""
        for turns in (0, 1, 2):
            laps = lap("g", grow("u", "u"), grow("h", times("g", "u")))
            self.check(row(put("g", turns), laps), out=("h", "u"))

    def test_two_rows_one_behind_another(self):
        """What is told of both is what the second one tells, with the first one's sums put in."""
        asked = 0
        for seed in range(400):
            chances = Chances(seed)
            first = some_row(chances, "abcdef", 2, 4)
            second = even_row(chances, "abcdef", "ghi", 4)
            both = done_by(row(*first[1], *second[1]))
            alone = done_by(second)
            ahead = {x: sum_of_name(x) for x in names_of(second) if x not in names_of(first)}
            ahead.update(done_by(first))
            for x in alone:
                if x in "abcdefg" and all(y in ahead for y in names_in(alone[x])):
                    asked += 1
                    self.assertIn(x, both, (first, second))
                    self.assertTrue(same(both[x], put_in(alone[x], ahead)), (first, second, x))
        self.assertGreater(asked, 1000)


class LapsWithinLaps(DoneTest):
    def test_an_inner_guard_that_is_set_ahead_of_it(self):
        told = self.check(row(lap("n", put("i", "a"), lap("i", grow("y", 1)))), out=("i",))
        self.assertEqual(told["y"].parts, {(("y", 1),): (1, 1), (("a", 1), ("n", 1)): (1, 1)})
        self.check(row(lap("n", put("i", "n"), lap("i", grow("y", "i"), grow("z", "n")))), out=("i",))
        self.check(row(put("n", add("n", 1)), lap("n", put("i", "n"), lap("i", grow("y", "i"), grow("z", "n")))))

    def test_an_inner_guard_that_is_not(self):
        self.check(row(lap("n", lap("i", grow("y", 1)))), out=("i", "y"))
        told = self.check(row(put("n", add("n", 1)), lap("n", lap("i", grow("y", 1)))), out=("y",))
        self.assertEqual(told["i"].parts, {})
        self.check(row(lap("n", lap("i"), grow("y", 1))), out=("i",))

    def test_an_inner_guard_that_grows(self):
        self.check(row(lap("n", grow("k", 1), put("i", "k"), lap("i", grow("y", "k")))), out=("i",))
        self.check(row(lap("n", put("i", times("k", "n")), lap("i", grow("y", "i")), grow("k", 2))), out=("i",),
                   numbers=(0, 1, 2, 3))

    def test_three_within_one_another(self):
        cubes = row(lap("a", put("b", "a"), lap("b", put("c", "b"), lap("c", grow("y", 1), grow("z", "c")))))
        self.check(cubes, out=("b", "c"))
        mixed = row(
            put("a", "n"),
            lap("a", put("b", add("a", 1)), grow("x", "b"),
                lap("b", put("c", times(2, "b")), grow("y", "c"), lap("c", grow("z", add("y", times("c", "n")))))),
        )
        self.check(mixed, out=("b", "c"))
        self.check(row(put("a", add("n", 1)), *mixed[1][1:]), numbers=(0, 1, 2, 3))

    def test_names_set_anew_by_inner_laps(self):
        self.check(row(lap("n", put("i", 2), lap("i", put("y", "n")), grow("z", "y"))), out=("i", "y"))
        self.check(row(put("n", 3), lap("n", put("i", add("k", 1)), lap("i", put("y", "n")), grow("z", add("y", "a")))))
        self.check(row(put("n", 3), lap("n", put("i", "k"), lap("i", put("y", "n")), grow("z", "y"))), out=("y", "z"))

    def test_an_uneven_lap_within_an_even_one(self):
        self.check(row(lap("n", put("i", 4), lap("i", put("i", 0), put("y", 1)), grow("z", "a"))), out=("i", "y"))
        self.check(row(put("n", 2), lap("n", put("i", 4), lap("i", put("i", 0), put("y", 1)), grow("z", "y"))),
                   out=("y", "z"))
        self.check(row(put("n", 2), lap("n", put("i", 4), lap("i", put("i", 0), put("y", 1)), put("y", "a"))))

    def test_an_even_lap_within_an_uneven_one(self):
        self.check(row(lap("n", put("i", 4), lap("i", grow("y", 1)), put("n", 0))), out=("i", "y"))

    def test_an_outer_guard_that_an_inner_lap_sets(self):
        self.check(row(lap("n", put("i", 1), lap("i", put("n", 0)), grow("y", 1))), out=("i", "y"))
        self.check(row(lap("n", put("i", 2), lap("i", put("n", "n"), grow("y", "n")))), out=("i",))
        self.check(row(lap("n", lap("i", put("n", 0)), grow("y", 1))), out=("i", "y"), numbers=(0, 1, 2))

    def test_the_same_guard_within(self):
        self.check(row(lap("n", lap("n", grow("y", 1)), grow("z", 1))), out=("y", "z"))
        self.check(row(lap("n", put("q", "n"), lap("n", grow("y", 1)), put("n", "q"))), out=("q",))

    def test_the_same_inner_guard_in_two_laps(self):
        self.check(row(lap("n", put("i", "n"), lap("i", grow("y", "i")), put("i", "a"), lap("i", grow("z", "y")))),
                   out=("i",), numbers=(0, 1, 2, 3))

    def test_names_only_in_inner_measures(self):
        told = self.check(row(lap("n", put("i", 1), lap("i", grow("y", 1), measure="m"), measure="k")), out=("i",))
        self.assertEqual(told["m"].parts, {(("m", 1),): (1, 1)})
        self.assertEqual(told["k"].parts, {(("k", 1),): (1, 1)})

    def test_somewhat_beyond_three(self):
        statements = [grow("y", 1)]
        for outer, inner in (("d", "e"), ("c", "d"), ("b", "c"), ("a", "b")):
            statements = [put(inner, outer), lap(inner, *statements)]
        self.check(row(lap("a", *statements)), out=("b", "c", "d", "e"), numbers=(0, 1, 2, 3, 4))


class TheMeasure(DoneTest):
    def test_it_does_not_matter(self):
        for measure in (0, 5, "n", "y", times("y", "a"), add("n", "i")):
            told = done_by(row(lap("n", put("i", "n"), lap("i", grow("y", "a"), measure=measure), measure=measure)))
            self.assertEqual(sorted(told), ["a", "n", "y"])
            self.assertEqual(told["y"].parts, {(("y", 1),): (1, 1), (("a", 1), ("n", 2)): (1, 2),
                                               (("a", 1), ("n", 1)): (-1, 2)})


class Again(DoneTest):
    PROGRAMS = (
        row(put("a", "b"), say("c")),
        row(put("a", "b"), put("c", "a"), put("d", "a")),
        row(put("n", add("n", 1)), lap("n", grow("y", "n"), put("z", "y"), put("w", "w"))),
        row(lap("n", put("n", 0), put("y", 1)), put("z", "n")),
    )

    def test_what_is_given_back_may_be_changed(self):
        for program in self.PROGRAMS:
            wanted = {x: dict(told.parts) for x, told in done_by(program).items()}
            for _ in range(2):
                found = done_by(program)
                self.assertEqual({x: told.parts for x, told in found.items()}, wanted)
                for told in found.values():
                    self.assertIs(told.__class__, Sum)
                    told.parts.clear()
                found.clear()

    def test_no_two_names_share_a_sum(self):
        for program in self.PROGRAMS:
            for changed in done_by(program):
                found = done_by(program)
                kept = {x: dict(told.parts) for x, told in found.items() if x != changed}
                found[changed].parts[(("q", 9),)] = (1, 1)
                found[changed].parts.pop((), None)
                self.assertEqual({x: told.parts for x, told in found.items() if x != changed}, kept)


class Many(DoneTest):
    def test_many_rows(self):
        told_in_all = turns_in_all = 0
        for seed in range(500):
            chances = Chances(seed)
            program = some_row(chances, NAMES, 3, 6)
            told = done_by(program)
            for _ in range(4):
                at = {x: chances.below(4) for x in names_of(program)}
                try:
                    _, ends, turns, _ = ran(program, at, 12)
                except Dry:
                    continue
                turns_in_all += turns
                told_in_all += len(told)
                for x in told:
                    self.assertEqual(worth(told[x], at), (ends[x], 1), (program, at, x))
        self.assertGreater(told_in_all, 1000)
        self.assertGreater(turns_in_all, 1000)


if __name__ == "__main__":
    unittest.main()
