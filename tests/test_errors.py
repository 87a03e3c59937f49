import unittest

from neveragain.errors import (
    NoPiece,
    NoRow,
    NoRule,
    NoShares,
    NoStart,
    NotMixed,
    TooGreat,
    WordError,
)

REFUSALS = [NoRule, NoStart, NoPiece, NotMixed, NoShares, NoRow, TooGreat]


class TestClasses(unittest.TestCase):
    def test_each_refusal_is_a_word_error_and_a_value_error(self):
        self.assertTrue(issubclass(WordError, ValueError))
        for refusal in REFUSALS:
            with self.subTest(refusal=refusal):
                self.assertTrue(issubclass(refusal, WordError))
                self.assertTrue(issubclass(refusal, ValueError))
                self.assertIsNot(refusal, WordError)

    def test_none_stands_under_another_one(self):
        self.assertEqual(len(set(REFUSALS)), 7)
        for one in REFUSALS:
            for other in REFUSALS:
                if one is not other:
                    with self.subTest(one=one, other=other):
                        self.assertFalse(issubclass(one, other))

    def test_names(self):
        self.assertEqual(
            [refusal.__name__ for refusal in REFUSALS],
            ["NoRule", "NoStart", "NoPiece", "NotMixed", "NoShares", "NoRow", "TooGreat"],
        )

    def test_raised_and_taken(self):
        for refusal in REFUSALS + [WordError]:
            with self.subTest(refusal=refusal):
                with self.assertRaises(ValueError) as taken:
                    raise refusal()
                self.assertIs(type(taken.exception), refusal)


class TestTooGreat(unittest.TestCase):
    def test_most(self):
        self.assertIsNone(TooGreat().most)
        self.assertEqual(TooGreat(7).most, 7)
        self.assertEqual(TooGreat(most=8).most, 8)

    def test_each_object_keeps_its_own_most(self):
        one = TooGreat(1)
        other = TooGreat(2)
        bare = TooGreat()
        self.assertEqual((one.most, other.most, bare.most), (1, 2, None))


if __name__ == "__main__":
    unittest.main()
