"""The refusals."""

import unittest

from homeround import errors
from homeround.errors import NoBack, NoRow, NoTable, NoText, NotEven, NotStraight, RoundError, TooFew, TooMany

OF_A_TEXT = (NotEven, NotStraight, TooFew, TooMany, NoTable, NoBack, NoRow)
REFUSALS = OF_A_TEXT + (NoText,)


class Refusals(unittest.TestCase):
    def test_each_stands_right_under_round_error(self):
        self.assertEqual(RoundError.__bases__, (ValueError,))
        for refusal in REFUSALS:
            self.assertEqual(refusal.__bases__, (RoundError,), refusal)

    def test_each_bears_its_name(self):
        names = ["NotEven", "NotStraight", "TooFew", "TooMany", "NoTable", "NoBack", "NoRow", "NoText"]
        self.assertEqual([refusal.__name__ for refusal in REFUSALS], names)
        self.assertEqual([getattr(errors, name) for name in names], list(REFUSALS))

    def test_each_is_none_of_the_others(self):
        for refusal in REFUSALS:
            thing = refusal(3) if refusal is NoText else refusal("words")
            self.assertIsInstance(thing, RoundError)
            self.assertIsInstance(thing, ValueError)
            self.assertEqual([other for other in REFUSALS if isinstance(thing, other)], [refusal])

    def test_each_is_made_of_a_text_and_raised(self):
        for refusal in OF_A_TEXT:
            with self.assertRaises(refusal) as caught:
                raise refusal("some words")
            self.assertEqual(str(caught.exception), "some words")

    def test_no_text_keeps_at(self):
        for at in (0, 1, 77):
            with self.assertRaises(NoText) as caught:
                raise NoText(at)
            self.assertEqual(caught.exception.at, at)
            self.assertIsInstance(str(caught.exception), str)

    def test_two_no_texts_keep_their_own(self):
        first, second = NoText(1), NoText(2)
        self.assertEqual((first.at, second.at), (1, 2))


if __name__ == "__main__":
    unittest.main()
