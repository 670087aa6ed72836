"""The interface's section on errors: which class stands under which, and the fields."""

import unittest

from selfsight.errors import NoHall, NoHiding, NoName, NoPerson, NoRing, NoRow, NoText, SightError

UNDER = [NoHall, NoText, NoPerson, NoHiding, NoRing, NoRow, NoName]


class ErrorsTest(unittest.TestCase):
    def test_any_refusal_is_a_value_error(self):
        self.assertEqual(SightError.__bases__, (ValueError,))

    def test_each_stands_straight_under_sight_error(self):
        for error in UNDER:
            self.assertEqual(error.__bases__, (SightError,), error)

    def test_none_stands_under_another(self):
        for one in UNDER:
            for other in UNDER:
                self.assertEqual(issubclass(one, other), one == other, (one, other))

    def test_one_field(self):
        for value in (None, 0, 7, ((1, 2), (3, 1))):
            self.assertEqual(NoHall(value).side, value)
            self.assertEqual(NoText(value).word, value)
            self.assertEqual(NoPerson(value).number, value)
            self.assertEqual(NoRing(value).point, value)

    def test_two_fields(self):
        refusal = NoHiding((-1, 2), (3, 1))
        self.assertEqual((refusal.dx, refusal.dy), ((-1, 2), (3, 1)))

    def test_fields_are_each_objects_own(self):
        first = NoHall(1)
        second = NoHall(2)
        self.assertEqual((first.side, second.side), (1, 2))
        self.assertFalse(hasattr(NoHall, "side"))

    def test_raised_and_taken_as_any_refusal(self):
        for refusal in (NoHall(None), NoText(0), NoPerson(0), NoHiding(1, 2), NoRing(None), NoRow(), NoName()):
            with self.assertRaises(SightError) as taken:
                raise refusal
            self.assertIs(taken.exception, refusal)


if __name__ == "__main__":
    unittest.main()
