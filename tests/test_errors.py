"""The refusals of vitrine.errors."""

import unittest

from vitrine import errors

NAMES = (
    "BadName Taken BadWord Full BadKind BadRange BadLimit BadDay NoPlace BadGrade NoThing TooSoon "
    "Clash NoPaper NoBar BadCount Twice NoShow BadPrice NoDeed BadStory BadRow"
).split()


class Refusals(unittest.TestCase):
    def test_the_base_stands_straight_under_value_error(self):
        self.assertEqual(errors.HouseError.__bases__, (ValueError,))

    def test_there_are_twenty_two_straight_under_the_base(self):
        self.assertEqual(len(set(NAMES)), 22)
        for name in NAMES:
            with self.subTest(name):
                self.assertEqual(getattr(errors, name).__bases__, (errors.HouseError,))
                self.assertEqual(getattr(errors, name).__name__, name)

    def test_none_stands_under_another(self):
        for one in NAMES:
            for other in NAMES:
                if one != other:
                    self.assertFalse(issubclass(getattr(errors, one), getattr(errors, other)), (one, other))

    def test_the_others_are_made_with_one_text(self):
        for name in ["HouseError"] + NAMES:
            if name == "BadRow":
                continue
            with self.subTest(name), self.assertRaises(getattr(errors, name)):
                raise getattr(errors, name)("some words")

    def test_each_is_taken_as_a_house_error_and_a_value_error(self):
        for name in NAMES:
            refusal = getattr(errors, name)
            for base in (errors.HouseError, ValueError):
                with self.subTest(name), self.assertRaises(base):
                    raise refusal(3) if name == "BadRow" else refusal("some words")

    def test_bad_row_has_its_place(self):
        for at in (0, 1, 17, 10 ** 6):
            with self.assertRaises(errors.BadRow) as caught:
                raise errors.BadRow(at)
            self.assertEqual(caught.exception.at, at)
            self.assertIs(type(caught.exception.at), int)

    def test_two_bad_rows_have_their_own_places(self):
        one = errors.BadRow(4)
        other = errors.BadRow(at=5)
        self.assertEqual((one.at, other.at), (4, 5))


if __name__ == "__main__":
    unittest.main()
