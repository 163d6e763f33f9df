"""The refusals: which class stands under which, and their fields."""

import unittest

from chancehall.errors import (
    HallError,
    NoChance,
    NoDoor,
    NoName,
    NoNumber,
    NoPlan,
    NoRoom,
    NoRow,
    NoShare,
    NoText,
)

PLAIN = [NoNumber, NoName, NoChance, NoShare, NoText]
WITH_FIELD = [(NoRow, "row"), (NoRoom, "room"), (NoDoor, "door"), (NoPlan, "room")]
ALL = PLAIN + [pair[0] for pair in WITH_FIELD]

# What was asked for may be of any kind; the last one is too long for Python to write out.
THINGS = [None, True, 0, -3, "", "hall", (1, 2), [1, [2]], {}, object(), 1 << 20000]


class Classes(unittest.TestCase):
    def test_names(self):
        names = "NoNumber NoName NoChance NoShare NoText NoRow NoRoom NoDoor NoPlan".split()
        self.assertEqual([kind.__name__ for kind in ALL], names)

    def test_hall_error_stands_under_value_error(self):
        self.assertEqual(HallError.__bases__, (ValueError,))

    def test_each_stands_under_hall_error(self):
        for kind in ALL:
            self.assertEqual(kind.__bases__, (HallError,), kind)

    def test_none_stands_under_another(self):
        for one in ALL:
            for other in ALL:
                self.assertEqual(issubclass(one, other), one is other, (one, other))

    def test_plain_ones_are_raised_and_taken(self):
        for kind in PLAIN:
            with self.assertRaises(HallError) as taken:
                raise kind("some words")
            self.assertIs(type(taken.exception), kind)


class Fields(unittest.TestCase):
    def test_fields_hold_what_was_asked_for(self):
        for kind, field in WITH_FIELD:
            for thing in THINGS:
                with self.assertRaises(HallError) as taken:
                    raise kind(thing)
                self.assertIs(getattr(taken.exception, field), thing)

    def test_words_can_be_told_whatever_was_asked_for(self):
        for kind, field in WITH_FIELD:
            for thing in THINGS:
                self.assertIsInstance(str(kind(thing)), str)

    def test_each_object_has_its_own_field(self):
        for kind, field in WITH_FIELD:
            one = kind(1)
            kind(2)
            self.assertEqual(getattr(one, field), 1)


if __name__ == "__main__":
    unittest.main()
