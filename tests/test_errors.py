"""[0.6]: the classes of the refusals."""

import unittest

from groupcost import errors

NAMES = [
    "BadTable", "Unlike", "NotFalling", "NotRising", "NotUnder", "NotBase", "BadMaker", "BadAsk", "BadPaper", "BadText",
]


def made(name):
    kind = getattr(errors, name)
    return kind("some words", 3) if name == "BadText" else kind("some words")


class ErrorsTest(unittest.TestCase):
    def test_cost_error_stands_under_value_error(self):
        self.assertEqual(errors.CostError.__bases__, (ValueError,))
        self.assertEqual(str(errors.CostError("some words")), "some words")

    def test_each_stands_straight_under_cost_error(self):
        for name in NAMES:
            with self.subTest(name):
                self.assertEqual(getattr(errors, name).__bases__, (errors.CostError,))
                self.assertEqual(getattr(errors, name).__name__, name)

    def test_none_stands_under_another_one(self):
        for one in NAMES:
            for other in NAMES:
                if one != other:
                    self.assertNotIsInstance(made(one), getattr(errors, other))

    def test_each_is_made_with_a_text_and_can_be_raised(self):
        for name in NAMES:
            with self.subTest(name):
                self.assertEqual(str(made(name)), "some words")
                with self.assertRaises(getattr(errors, name)):
                    raise made(name)

    def test_bad_text_keeps_its_row(self):
        for row in (1, 2, 70):
            error = errors.BadText("some words", row)
            self.assertEqual(error.row, row)
            self.assertIs(type(error.row), int)
        try:
            raise errors.BadText("some words", 12)
        except errors.CostError as caught:
            self.assertEqual(caught.row, 12)

    def test_two_bad_texts_keep_rows_of_their_own(self):
        one = errors.BadText("one", 1)
        other = errors.BadText("other", 2)
        self.assertEqual((one.row, other.row), (1, 2))


if __name__ == "__main__":
    unittest.main()
