import itertools
import time
import unittest

from neveragain.errors import TooGreat
from neveragain.keeping import free_words, keeps, looked_length
from neveragain.repeats import repeat_in
from written import (
    FOUR_LETTERS,
    THREE_LETTERS,
    TWO_LETTERS,
    first_repeat,
    is_free,
    put_once,
    stretches_with_periods,
    words_of,
)

DOUBLES = (2, 1, False)
THUE = ("abcab", "acabcb", "acbcacb")

# How many free words there are of each length from 0 on, as far as there are up to 300.
MANY_FREE = {
    1: [1, 1] + [0] * 19,
    2: [1, 2, 2, 2] + [0] * 17,
    3: [1, 3, 6, 12, 18, 30, 42, 60, 78, 108, 144, 204, 264],
    4: [1, 4, 12, 36, 96, 264],
}

# Rules that keep, with how many words are looked at.
KEEPING = [
    (("a",), 1),
    (("a", "b"), 6), (("b", "a"), 6),
    (("a", "b", "c"), 21), (("c", "a", "b"), 21), (THUE, 21),
    (("abcacb", "abcbacbcabcb", "acabacbcabac"), 39),
    (("abac", "abcbabcacbc", "abcbacabacbc"), 69),
    (("a", "b", "c", "d"), 52), (("c", "b", "d", "a"), 52),
    (("abcd", "abdc", "acbd", "acdb"), 52), (("dcab", "ac", "dadbc", "dbabc"), 52),
    (("badbdc", "dbda", "bcdbdaca", "bdbca"), 148),
    (("adcadbabcdcb", "cadacdbdcbdb", "cdbabdb", "cacbdcdadb"), 148),
    (("abcacbacad", "bdcdbadc", "bcd", "bdcdac"), 412),
    (("bcda", "bcadbdabdc", "bdbabdc", "bac"), 412),
]

# Rules that break, with the first word at which they do.
BREAKING = [
    (("aa",), "a"), (("a" * 12,), "a"),
    (("a", "a"), "ab"), (("ab", "ba"), "ab"), (("ab", "a"), "ba"), (("a", "bb"), "b"),
    (("abc", "ac", "b"), "aba"), (("abacbcacbac", "bcbacabacba", "cacbabcbacb"), "ab"),
    (("b", "c", "acbca"), "cbc"),
    (("c", "bcdcabda", "d", "bcdacdcadcba"), "dcab"), (("acbcadabd", "bad", "acdbadcbcd", "c"), "cbdb"),
    (("abcbdadb", "cb", "abcacdb", "d"), "abda"), (("bd", "badc", "a", "bacabdbc"), "dcab"),
    (("bdadbcdba", "bc", "bdadbabdca", "d"), "adbda"), (("cdb", "cdacaba", "d", "cbdadcdbdcba"), "dcacd"),
    (("ca", "b", "dcba", "dacabcadba"), "cabad"), (("adabc", "dc", "b", "acbdcbadbabc"), "acbcd"),
]

# None of these breaks at a word of up to five signs, and six are to be looked at.
TOO_MANY = [
    THUE + ("d",), ("d", "bcacbda", "ca", "bcdcba"), ("a", "dab", "dbcdcacb", "dc"),
    ("bacadcabdc", "d", "babc", "ac"), ("adcdbdabcacd", "c", "abadbcbd", "acbabd"),
]


def sizes_of(rule):
    return [len(word) for word in rule]


def looked_plainly(rule):
    longest = max(sizes_of(rule))
    return 3 + ((longest - 4) // min(sizes_of(rule)) if longest > 4 else 0)


def free_of_length(many, size):
    """All free words of a length, one by one, without going through those that aren't."""
    def longer(word):
        if len(word) == size:
            yield word
            return
        for letter in "abcd"[:many]:
            if is_free(word + letter):
                yield from longer(word + letter)

    return longer("")


def keeps_plainly(rule):
    looked = []
    for size in range(1, looked_plainly(rule) + 1):
        for word in free_of_length(len(rule), size):
            made = put_once(rule, word)
            if not is_free(made):
                return ("breaks", word, first_repeat(stretches_with_periods(made), DOUBLES))
            looked.append(word)
    return ("keeps", looked)


class KeepingTest(unittest.TestCase):
    def assert_too_great(self, most, asked, *handed):
        with self.assertRaises(TooGreat, msg=handed) as taken:
            asked(*handed)
        self.assertEqual(taken.exception.most, most, handed)


class TestFreeWords(KeepingTest):
    def test_told_ones(self):
        for many, length, wanted in [
            (1, 0, [""]), (4, 0, [""]), (1, 1, ["a"]), (1, 2, []), (1, 20, []),
            (2, 1, ["a", "b"]), (2, 2, ["ab", "ba"]), (2, 3, ["aba", "bab"]), (2, 4, []), (2, 20, []),
            (3, 1, ["a", "b", "c"]), (3, 2, ["ab", "ac", "ba", "bc", "ca", "cb"]),
            (3, 3, ["aba", "abc", "aca", "acb", "bab", "bac", "bca", "bcb", "cab", "cac", "cba", "cbc"]),
            (4, 1, ["a", "b", "c", "d"]),
        ]:
            with self.subTest(many=many, length=length):
                told = free_words(many, length)
                self.assertEqual(told, wanted)
                self.assertIs(type(told), list)

    def test_against_all_words_of_a_length(self):
        for many, most in [(1, 20), (2, 10), (3, 8), (4, 5)]:
            for length in range(most + 1):
                wanted = [word for word in words_of(many, length) if is_free(word)]
                self.assertEqual(free_words(many, length), wanted, (many, length))

    def test_how_many(self):
        for many, counted in MANY_FREE.items():
            for length, wanted in enumerate(counted):
                told = free_words(many, length)
                self.assertEqual(len(told), wanted, (many, length))
                self.assertEqual(told, sorted(set(told)))
                for word in told:
                    self.assertEqual(len(word), length)
                    self.assertTrue(is_free(word))
                    self.assertIsNone(repeat_in(word, DOUBLES))
                self.assertEqual(told, list(free_of_length(many, length)))

    def test_more_than_three_hundred(self):
        for many, counted in MANY_FREE.items():
            for length in range(len(counted), 21):
                there = list(itertools.islice(free_of_length(many, length), 301))
                self.assertEqual(len(there), 301, (many, length))
                self.assert_too_great(300, free_words, many, length)

    def test_a_list_told_is_the_askers_own(self):
        for many, length in [(3, 0), (3, 2), (2, 5), (4, 5)]:
            before = free_words(many, length)
            told = free_words(many, length)
            told.append("x")
            told[0] = "y"
            self.assertEqual(free_words(many, length), before)

    def test_somewhat_longer_ones(self):
        self.assertEqual(free_words(2, 21), [])
        self.assert_too_great(300, free_words, 3, 21)


class TestLookedLength(KeepingTest):
    def test_told_ones(self):
        for rule, wanted in [
            (("a",), 3), (("aaaa",), 3), (("aaaaa",), 3), (("aaaaaaaa",), 3), (("a" * 12,), 3),
            (("abab", "b"), 3), (("ababa", "b"), 4), (("ababa", "bb"), 3), (("ababab", "bb"), 4),
            (("ababab", "b"), 5), (("a" * 12, "b"), 11), (("b", "a" * 12), 11), (("a" * 12, "bb"), 7),
            (("a" * 12, "bbb"), 5), (("a" * 12, "b" * 4), 5), (("a" * 12, "b" * 5), 4),
            (("a" * 12, "b" * 8), 4), (("a" * 12, "b" * 9), 3), (("a" * 11, "b" * 8), 3),
            (THUE, 3), (THUE + ("d",), 6), (("c", "a" * 7, "bb"), 6),
            (("a", "b", "c", "d"), 3), (("aaaa", "bbbb", "cccc", "d"), 3),
        ]:
            with self.subTest(rule=rule):
                self.assertEqual(looked_length(rule), wanted)

    def test_all_sizes_of_two_words(self):
        for one in range(1, 13):
            for other in range(1, 13):
                rule = ("a" * one, "b" * other)
                self.assertEqual(looked_length(rule), looked_plainly(rule))
                self.assertEqual(looked_length(rule + ("c" * max(one, other),)), looked_plainly(rule))

    def test_words_of_any_size(self):
        self.assertEqual(looked_length(("a" * 13, "b")), 12)
        self.assertEqual(looked_length(("a" * 100, "b")), 99)
        self.assertEqual(looked_length(("a" * 100, "b" * 97)), 3)


class TestKeeps(KeepingTest):
    def test_rules_that_keep(self):
        for rule, many in KEEPING:
            with self.subTest(rule=rule):
                told = keeps(rule)
                self.assertIs(type(told), tuple)
                self.assertEqual(len(told), 2)
                self.assertEqual(told[0], "keeps")
                self.assertIs(type(told[1]), list)
                wanted = [
                    word
                    for size in range(1, looked_length(rule) + 1)
                    for word in free_of_length(len(rule), size)
                ]
                self.assertEqual(told[1], wanted)
                self.assertEqual(len(told[1]), many)

    def test_their_images_of_longer_words_are_free(self):
        for rule, many in KEEPING:
            for size in range(looked_length(rule) + 1, looked_length(rule) + 4):
                for word in itertools.islice(free_of_length(len(rule), size), 0, None, 7):
                    self.assertIsNone(repeat_in(put_once(rule, word), DOUBLES), (rule, word))

    def test_rules_that_break(self):
        for rule, word in BREAKING:
            with self.subTest(rule=rule):
                told = keeps(rule)
                self.assertIs(type(told), tuple)
                self.assertEqual(told[:2], ("breaks", word))
                self.assertTrue(is_free(word))
                made = put_once(rule, word)
                self.assertEqual(told[2:], (first_repeat(stretches_with_periods(made), DOUBLES),))
                place, length, period = told[2]
                self.assertEqual(length, 2 * period)
                self.assertEqual(made[place:place + period], made[place + period:place + length])
                self.assertEqual(told, keeps_plainly(rule))

    def test_told_ones(self):
        self.assertEqual(keeps(("a",)), ("keeps", ["a"]))
        self.assertEqual(keeps(("b", "a")), ("keeps", ["a", "b", "ab", "ba", "aba", "bab"]))
        self.assertEqual(keeps(("aa",)), ("breaks", "a", (0, 2, 1)))
        self.assertEqual(keeps(("ab", "ba")), ("breaks", "ab", (1, 2, 1)))
        self.assertEqual(keeps(("ab", "a")), ("breaks", "ba", (0, 2, 1)))
        self.assertEqual(keeps(("abc", "ac", "b")), ("breaks", "aba", (2, 4, 2)))

    def test_all_small_rules(self):
        for rule in TWO_LETTERS + THREE_LETTERS + FOUR_LETTERS:
            self.assertEqual(keeps(rule), keeps_plainly(rule), rule)

    def test_rules_of_free_words(self):
        words = [word for size in (1, 2, 3, 5) for word in free_of_length(3, size)]
        for rule in list(itertools.product(words, repeat=3))[::211]:
            self.assertEqual(keeps(rule), keeps_plainly(rule), rule)

    def test_a_list_told_is_the_askers_own(self):
        before = keeps(THUE)
        told = keeps(THUE)
        told[1].append("x")
        told[1][0] = "y"
        self.assertEqual(keeps(THUE), before)


class TestRefusals(KeepingTest):
    def test_a_word_of_thirteen_signs(self):
        for many in range(1, 5):
            for place in range(many):
                for size in (13, 14, 50, 100):
                    words = ["abcd"[k] for k in range(many)]
                    words[place] = ("abcd"[:many] * size)[:size]
                    self.assert_too_great(12, keeps, tuple(words))

    def test_a_word_of_twelve_signs(self):
        for many in range(1, 5):
            for place in range(many):
                words = ["abcd"[k] for k in range(many)]
                words[place] = ("abcd"[:many] * 12)[:12]
                told = keeps(tuple(words))
                self.assertEqual(told, keeps_plainly(tuple(words)))
                self.assertEqual(told[0], "breaks")

    def test_thirteen_signs_go_ahead_of_all_else(self):
        self.assert_too_great(12, keeps, ("a" * 13,))
        self.assert_too_great(12, keeps, ("aa", "b" * 13))
        # With one sign less in its longest word it is refused for its many words.
        rule = ("adcdbdabcacd", "c", "abadbcbd", "acbabd")
        self.assert_too_great(800, keeps, rule)
        self.assert_too_great(12, keeps, ("adcdbdabcacdb",) + rule[1:])

    def test_more_than_eight_hundred_words(self):
        for rule in TOO_MANY:
            self.assertGreaterEqual(looked_length(rule), 6)
            for size in range(1, 6):
                for word in free_of_length(4, size):
                    self.assertIsNone(repeat_in(put_once(rule, word), DOUBLES), (rule, word))
            self.assert_too_great(800, keeps, rule)

    def test_four_hundred_and_twelve_words(self):
        rule = ("abcacbacad", "bdcdbadc", "bcd", "bdcdac")
        self.assertEqual(looked_length(rule), 5)
        self.assertEqual(len(keeps(rule)[1]), 412)

    def test_a_break_goes_ahead_of_lengths_that_it_does_not_come_to(self):
        met = set()
        for rule, word in BREAKING:
            if len(rule) == 4 and looked_length(rule) > 5:
                self.assertEqual(keeps(rule)[:2], ("breaks", word))
                met.add(len(word))
        self.assertEqual(met, {4, 5})
        self.assertEqual(keeps(("aa", "b", "c", "d" * 12))[:2], ("breaks", "a"))

    def test_the_same_answers_behind_refusals(self):
        def answers():
            return [
                keeps(THUE), keeps(("abc", "ac", "b")), free_words(3, 7), free_words(2, 9),
                looked_length(THUE),
            ]

        before = answers()
        self.assert_too_great(800, keeps, TOO_MANY[0])
        self.assert_too_great(12, keeps, ("a" * 13, "b"))
        self.assert_too_great(300, free_words, 3, 13)
        keeps(("ab", "ba"))
        free_words(4, 3)
        self.assertEqual(answers(), before)
        self.assert_too_great(800, keeps, TOO_MANY[0])
        self.assert_too_great(300, free_words, 3, 13)


class TestGoodTime(unittest.TestCase):
    def test_the_bounds(self):
        began = time.perf_counter()
        for rule, many in KEEPING:
            keeps(rule)
        for rule in TOO_MANY:
            with self.assertRaises(TooGreat):
                keeps(rule)
        for many in range(1, 5):
            for length in range(21):
                try:
                    free_words(many, length)
                except TooGreat:
                    pass
        self.assertLess(time.perf_counter() - began, 20)


if __name__ == "__main__":
    unittest.main()
