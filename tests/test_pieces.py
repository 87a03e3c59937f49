import time
import unittest

from neveragain.counts import sizes
from neveragain.errors import NoStart, TooGreat
from neveragain.pieces import pieces
from neveragain.places import letter_at, stretch_at
from written import RULES, endless_word, first_places, growing, grows_plainly

DOUBLES = ("ab", "ba")
GOLDEN = ("ab", "a")
LINE = ("ab", "b")
SQUARE = ("ab", "bc", "c")
# The first b with g signs c behind it is made by g turns: it stands behind 49 a, turned so often.
LATE = ("a" * 49 + "b" + "a" * 50, "bc", "c")


def scattered_word(seed, size):
    signs = []
    for _ in range(size):
        seed = (seed * 1103515245 + 12345) % 2 ** 31
        signs.append("abcd"[seed // 2 ** 16 % 4])
    return "".join(signs)


RICH = tuple(letter + scattered_word(ord(letter), 99) for letter in "abcd")

JUST_300 = (("abddc", "bbaad", "cc", "cd"), 19)
JUST_301 = [
    (("ababb", "daacc", "cdd", "bdc"), 20), (("acbc", "cdcbb", "dd", "baa"), 19),
    (("aadc", "d", "cddbb", "badaa"), 20),
]


class PiecesTest(unittest.TestCase):
    def assert_too_great(self, rule, start, length):
        with self.assertRaises(TooGreat, msg=(rule, start, length)) as taken:
            pieces(rule, start, length)
        self.assertEqual(taken.exception.most, 300)


class TestToldPieces(PiecesTest):
    def test_told_ones(self):
        for rule, start, length, wanted in [
            (("aa",), "a", 1, [("a", 0)]),
            (("aa",), "a", 20, [("a" * 20, 0)]),
            (("a" * 100,), "a", 20, [("a" * 20, 0)]),
            (DOUBLES, "a", 1, [("a", 0), ("b", 1)]),
            (DOUBLES, "b", 1, [("a", 1), ("b", 0)]),
            (DOUBLES, "a", 2, [("aa", 5), ("ab", 0), ("ba", 2), ("bb", 1)]),
            (GOLDEN, "a", 3, [("aab", 2), ("aba", 0), ("baa", 1), ("bab", 4)]),
            (LINE, "a", 1, [("a", 0), ("b", 1)]),
            (LINE, "a", 20, [("a" + "b" * 19, 0), ("b" * 20, 1)]),
            (("aa", "b"), "a", 2, [("aa", 0)]),
            (("ac", "bb", "cc"), "a", 2, [("ac", 0), ("cc", 1)]),
        ]:
            with self.subTest(rule=rule, start=start, length=length):
                told = pieces(rule, start, length)
                self.assertEqual(told, wanted)
                self.assertIs(type(told), list)
                self.assertEqual({type(pair) for pair in told}, {tuple})

    def test_golden_has_one_piece_more_than_signs(self):
        for length in range(1, 21):
            told = pieces(GOLDEN, "a", length)
            self.assertEqual(len(told), length + 1)

    def test_doubles_from_both_letters(self):
        other = str.maketrans("ab", "ba")
        for length in range(1, 21):
            one = pieces(DOUBLES, "a", length)
            swapped = [(piece.translate(other), place) for piece, place in one]
            self.assertEqual(pieces(DOUBLES, "b", length), sorted(swapped))


class TestAgainstWordsWrittenOut(PiecesTest):
    def assert_as_written(self, rule, start, length, word):
        told = pieces(rule, start, length)
        self.assertEqual(told, sorted(told))
        self.assertEqual(len(dict(told)), len(told))
        near = {piece: place for piece, place in told if place + length <= len(word)}
        self.assertEqual(near, first_places(word, length), (rule, start, length))
        return len(told) - len(near)

    def test_small_lengths_of_all_small_rules(self):
        beyond = 0
        for rule, start in growing(RULES):
            word = endless_word(rule, start, 1000)
            for length in (1, 2, 3):
                beyond += self.assert_as_written(rule, start, length, word)
        self.assertEqual(beyond, 0)

    def test_greater_lengths(self):
        for rule, start in growing(RULES)[::8] + [(SQUARE, "a"), (LINE, "a")]:
            word = endless_word(rule, start, 3000)
            for length in (5, 9, 20):
                if len(first_places(word, length)) > 300:
                    self.assert_too_great(rule, start, length)
                else:
                    self.assert_as_written(rule, start, length, word)

    def test_all_lengths(self):
        for rule, start in [(DOUBLES, "a"), (GOLDEN, "a"), (("ab", "aa"), "a"), (LINE, "a")]:
            word = endless_word(rule, start, 2000)
            for length in range(1, 21):
                self.assertEqual(self.assert_as_written(rule, start, length, word), 0)

    def test_each_stands_where_it_is_told(self):
        for rule, start in growing(RULES)[::5]:
            for length in (1, 4, 8):
                try:
                    told = pieces(rule, start, length)
                except TooGreat:
                    continue
                for piece, place in told:
                    self.assertEqual(stretch_at(rule, start, place, length), piece)
                self.assertIn((stretch_at(rule, start, 0, length), 0), told)


class TestFarOut(PiecesTest):
    def test_first_places_farther_out_than_one_may_ask(self):
        for length in range(1, 21):
            told = dict(pieces(LATE, "a", length))
            # Two b are farther apart than a piece is long.
            wanted = {"c" * ahead + "a" * (length - ahead) for ahead in range(length + 1)}
            for ahead in range(length):
                for run in range(length - ahead):
                    rest = length - ahead - 1 - run
                    wanted.add("a" * ahead + "b" + "c" * run + "a" * rest)
            self.assertEqual(set(told), wanted)
            self.assertEqual(told["c" * length], 49 * sizes(LATE, length)[0] + 1)
        self.assertGreater(told["c" * 20], 10 ** 30)

    def test_what_stands_there(self):
        for piece, place in pieces(LATE, "a", 20):
            self.assertEqual(stretch_at(LATE, "a", place, 20), piece)

    def test_near_ones_of_a_word_with_far_ones(self):
        word = endless_word(LATE, "a", 50000)
        for length in (1, 2, 3, 7, 20):
            told = pieces(LATE, "a", length)
            near = {piece: place for piece, place in told if place + length <= 50000}
            self.assertEqual(near, first_places(word, length))

    def test_a_single_letter_far_out(self):
        rule = ("a" * 99 + "b", "b" * 99 + "c", "c" * 99 + "d", "d")
        told = dict(pieces(rule, "a", 1))
        self.assertEqual(told, {"a": 0, "b": 99, "c": 9999, "d": 999999})
        self.assertEqual(letter_at(rule, "a", 999999), "d")


class TestThreeHundred(PiecesTest):
    def test_just_three_hundred(self):
        rule, length = JUST_300
        told = pieces(rule, "a", length)
        self.assertEqual(len(told), 300)
        self.assertEqual(dict(told), first_places(endless_word(rule, "a", 30000), length))

    def test_just_one_more(self):
        for rule, length in JUST_301:
            written = first_places(endless_word(rule, "a", 30000), length)
            self.assertEqual(len(written), 301)
            self.assert_too_great(rule, "a", length)
            self.assertLessEqual(len(pieces(rule, "a", length - 1)), 300)

    def test_far_more(self):
        for length in (6, 12, 20):
            self.assert_too_great(RICH, "a", length)

    def test_the_length_at_which_they_get_too_many(self):
        for rule, start in growing(RULES)[::10]:
            word = endless_word(rule, start, 5000)
            refused = False
            for length in range(1, 21):
                many = len(first_places(word, length))
                if refused or many > 300:
                    self.assert_too_great(rule, start, length)
                    refused = True
                    continue
                try:
                    self.assertLessEqual(len(pieces(rule, start, length)), 300)
                except TooGreat:
                    # Some stand only behind what was written; then so it is for greater lengths.
                    refused = True


class TestNoStart(PiecesTest):
    def test_ahead_of_all_else(self):
        for rule, start in [
            (("a",), "a"), (("aa",), "b"), (("ba", "ab"), "a"), (("ab", "b"), "b"),
            (DOUBLES, "c"), (DOUBLES, "d"), (("abc", "ac", "b"), "c"),
            (RICH[1:] + RICH[:1], "a"), (RICH[1:] + RICH[:1], "d"), (RICH[:3] + ("d",), "d"),
        ]:
            for length in (1, 2, 12, 20):
                with self.assertRaises(NoStart, msg=(rule, start, length)):
                    pieces(rule, start, length)

    def test_all_small_rules(self):
        for rule in RULES:
            for start in "abcd":
                if not grows_plainly(rule, start):
                    with self.assertRaises(NoStart, msg=(rule, start)):
                        pieces(rule, start, 1)


class TestAskedAgain(PiecesTest):
    def test_a_list_told_is_the_askers_own(self):
        before = pieces(GOLDEN, "a", 4)
        told = pieces(GOLDEN, "a", 4)
        told[0] = ("", 0)
        told.append(None)
        self.assertEqual(pieces(GOLDEN, "a", 4), before)

    def test_the_same_answers_behind_other_askings_and_refusals(self):
        def answers():
            return [pieces(DOUBLES, "a", 7), pieces(LATE, "a", 12), pieces(SQUARE, "a", 5)]

        before = answers()
        self.assert_too_great(RICH, "a", 20)
        with self.assertRaises(NoStart):
            pieces(DOUBLES, "c", 7)
        pieces(DOUBLES, "b", 7)
        pieces(GOLDEN, "a", 12)
        self.assertEqual(answers(), before)

    def test_somewhat_longer_ones_are_not_refused(self):
        self.assertEqual(len(pieces(GOLDEN, "a", 21)), 22)
        self.assertEqual(pieces(("aa",), "a", 25), [("a" * 25, 0)])


class TestGoodTime(unittest.TestCase):
    def test_many_pieces_and_refusals(self):
        began = time.perf_counter()
        for again in range(10):
            for length in range(1, 21):
                pieces(LATE, "a", length)
                pieces(DOUBLES, "a", length)
            for length in (6, 20):
                with self.assertRaises(TooGreat):
                    pieces(RICH, "a", length)
        self.assertLess(time.perf_counter() - began, 30)


if __name__ == "__main__":
    unittest.main()
