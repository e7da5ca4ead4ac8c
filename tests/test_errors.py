"""lapfold.errors: each refusal is a LapError, and none of the four is one of the others."""

import unittest

from lapfold.errors import BadForm, Dry, LapError, NeedntFall, Uneven

PLAIN = (BadForm, Dry)
PLACED = (NeedntFall, Uneven)
PLACES = ((), (0,), (3, 0, 12))


class Kinds(unittest.TestCase):
    def test_any_refusal_is_a_value_error(self):
        self.assertTrue(issubclass(LapError, ValueError))
        self.assertIsNot(LapError, ValueError)

    def test_each_is_a_lap_error(self):
        for kind in PLAIN + PLACED:
            self.assertTrue(issubclass(kind, LapError), kind)
            self.assertTrue(issubclass(kind, ValueError), kind)
            self.assertIsNot(kind, LapError)

    def test_none_is_one_of_the_others(self):
        for kind in PLAIN + PLACED:
            for other in PLAIN + PLACED:
                self.assertEqual(issubclass(kind, other), kind is other, (kind, other))

    def test_raised_and_caught_by_its_own_name(self):
        for kind in PLAIN:
            with self.assertRaises(kind) as caught:
                raise kind("no")
            self.assertNotIsInstance(caught.exception, tuple(k for k in PLAIN + PLACED if k is not kind))

    def test_caught_as_any_refusal(self):
        for catching in (LapError, ValueError):
            with self.assertRaises(catching):
                raise BadForm("no")
            with self.assertRaises(catching):
                raise Dry("no")
            with self.assertRaises(catching):
                raise NeedntFall((0,))
            with self.assertRaises(catching):
                raise Uneven((0,))


class Place(unittest.TestCase):
    def test_place_is_what_was_told(self):
        for kind in PLACED:
            for place in PLACES:
                with self.assertRaises(kind) as caught:
                    raise kind(place)
                self.assertEqual(caught.exception.place, place)
                self.assertIs(caught.exception.__class__, kind)

    def test_each_error_has_its_own_place(self):
        for kind in PLACED:
            one = kind((1,))
            other = kind((2, 0))
            self.assertEqual((one.place, other.place), ((1,), (2, 0)))

    def test_the_message_is_a_text(self):
        for kind in PLACED:
            self.assertIsInstance(str(kind((1, 2))), str)


if __name__ == "__main__":
    unittest.main()
