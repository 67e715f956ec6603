"""errors.py: the classes, and how they stand under one another."""

import unittest

from lorehall import errors
from lorehall.errors import (
    LoreError, NoBeat, NoCount, NoHall, NoMeeting, NoPlan, NoStand, NoThing, TooMany,
)

PLAIN = [NoHall, NoStand, NoBeat, NoPlan, NoThing, NoCount, NoMeeting]


class TestErrors(unittest.TestCase):
    def test_lore_error_stands_under_value_error(self):
        self.assertTrue(issubclass(LoreError, ValueError))

    def test_each_stands_under_lore_error(self):
        for kind in PLAIN + [TooMany]:
            self.assertTrue(issubclass(kind, LoreError), kind)

    def test_none_stands_under_another(self):
        for kind in PLAIN + [TooMany]:
            for other in PLAIN + [TooMany]:
                self.assertEqual(issubclass(kind, other), kind is other, (kind, other))

    def test_each_can_be_raised_and_caught_as_any_refusal(self):
        for kind in PLAIN:
            with self.assertRaises(LoreError):
                raise kind("why")

    def test_too_many_is_made_of_its_field(self):
        for most in (2000, 0, 10 ** 18):
            self.assertEqual(TooMany(most).most, most)
        with self.assertRaises(LoreError) as caught:
            raise TooMany(2000)
        self.assertEqual(caught.exception.most, 2000)

    def test_two_of_them_have_their_own_fields(self):
        one, other = TooMany(1), TooMany(2)
        self.assertEqual((one.most, other.most), (1, 2))

    def test_all_are_in_the_module(self):
        for kind in PLAIN + [TooMany, LoreError]:
            self.assertIs(getattr(errors, kind.__name__), kind)


if __name__ == "__main__":
    unittest.main()
