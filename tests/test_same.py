import itertools
import time
import unittest

from neveragain.errors import NoStart, TooGreat, WordError
from neveragain.rules import behind
from neveragain.same import same
from written import (
    FOUR_LETTERS,
    ONE_LETTER,
    THREE_LETTERS,
    TWO_LETTERS,
    endless_word,
    grows_plainly,
    put_once,
    turns_to,
)

DOUBLES = ("ab", "ba")
GOLDEN = ("ab", "a")
# One sign more at each turn: 999 turns lead to place 999. Two more: 500. Three more: 333.
ONE_MORE = ("ab", "b")
TWO_MORE = ("abb", "b")
THREE_MORE = ("abbb", "b")


def unlike_at(place):
    """Two rules whose endless words are first unlike at that place, from 100 to 9999."""
    asked, step = divmod(place, 100)
    # The one c ahead stands at that place by 100, and its word takes the hundred signs there.
    start_word = "a" + "b" * (asked - 1) + "c" + "b" * (99 - asked)
    one = (start_word, "b" * 100, "b" * 100)
    other = (start_word, "b" * 100, "b" * step + "c" + "b" * (99 - step))
    return (one, other)


def same_plainly(rule, other, start):
    for each in (rule, other):
        if not grows_plainly(each, start):
            return "NoStart"
    for each in (rule, other):
        if turns_to(each, start, 999) > 400:
            return "TooGreat"
    one_word = endless_word(rule, start, 1000)
    other_word = endless_word(other, start, 1000)
    for place in range(1000):
        if one_word[place] != other_word[place]:
            return ("unlike", place)
    if all(put_once(rule, put_once(other, x)) == put_once(other, put_once(rule, x)) for x in "abcd"[:len(rule)]):
        return ("same",)
    return ("open",)


class SameTest(unittest.TestCase):
    def assert_refused(self, refusal, rule, other, start):
        with self.assertRaises(WordError, msg=(rule, other, start)) as taken:
            same(rule, other, start)
        self.assertIs(type(taken.exception), refusal, (rule, other, start))
        if refusal is TooGreat:
            self.assertEqual(taken.exception.most, 400)

    def assert_as_told(self, rule, other, start):
        wanted = same_plainly(rule, other, start)
        if wanted == "NoStart":
            self.assert_refused(NoStart, rule, other, start)
        elif wanted == "TooGreat":
            self.assert_refused(TooGreat, rule, other, start)
        else:
            self.assertEqual(same(rule, other, start), wanted, (rule, other, start))
        return wanted


class TestToldOnes(SameTest):
    def test_told_ones(self):
        for rule, other, start, wanted in [
            (("aa",), ("aa",), "a", ("same",)),
            (("aa",), ("aaa",), "a", ("same",)),
            (DOUBLES, DOUBLES, "a", ("same",)),
            (DOUBLES, DOUBLES, "b", ("same",)),
            (DOUBLES, ("abba", "baab"), "a", ("same",)),
            (("abba", "baab"), DOUBLES, "b", ("same",)),
            (DOUBLES, GOLDEN, "a", ("unlike", 2)),
            (GOLDEN, DOUBLES, "a", ("unlike", 2)),
            (GOLDEN, ("aba", "ab"), "a", ("same",)),
            (("aa", "b"), ("ab", "b" * 5), "a", ("unlike", 1)),
            (("aa", "b"), ("aa", "a"), "a", ("open",)),
            (("aa", "b"), ("aaa", "bbb"), "a", ("same",)),
            (("abc", "ac", "b"), ("abcacb", "abcb", "ac"), "a", ("same",)),
            (("ab", "ba", "c"), ("ab", "ba", "a"), "a", ("open",)),
            (("ad", "bc", "cb", "da"), ("ad", "c", "c", "da"), "a", ("open",)),
        ]:
            with self.subTest(rule=rule, other=other, start=start):
                told = same(rule, other, start)
                self.assertEqual(told, wanted)
                self.assertIs(type(told), tuple)

    def test_open_though_their_words_are_alike(self):
        # Only a makes the word; what is put for b and c comes to nothing in it.
        for word in ("a", "c", "ab", "ccc"):
            rule = ("aa", "b", "cb")
            other = ("aaa", word, "c")
            self.assertEqual(same(rule, other, "a"), ("open",))


class TestAgainstWordsWrittenOut(SameTest):
    def test_all_pairs_of_small_rules(self):
        met = {}
        for rules in (ONE_LETTER, TWO_LETTERS, FOUR_LETTERS):
            for rule, other in itertools.product(rules, repeat=2):
                if grows_plainly(rule, "a") and grows_plainly(other, "a"):
                    told = self.assert_as_told(rule, other, "a")
                    met[told[0]] = met.get(told[0], 0) + 1
        self.assertGreater(met["unlike"], 500)
        self.assertGreater(met["same"], 50)
        self.assertGreater(met["open"], 50)

    def test_pairs_of_three_letters(self):
        for start in "abc":
            rules = [rule for rule in THREE_LETTERS if grows_plainly(rule, start)]
            for rule, other in list(itertools.product(rules, repeat=2))[::13]:
                self.assert_as_told(rule, other, start)

    def test_both_ways_round(self):
        rules = [rule for rule in TWO_LETTERS if grows_plainly(rule, "b") and turns_to(rule, "b", 999) < 401]
        for rule, other in itertools.combinations(rules, 2):
            self.assertEqual(same(rule, other, "b"), same(other, rule, "b"))

    def test_a_rule_and_what_stands_behind_it(self):
        for rule in (DOUBLES, GOLDEN, ("abc", "ac", "b"), ("ad", "bc", "cb", "da"), ("aab", "ba")):
            twice = behind(rule, rule)
            thrice = behind(rule, twice)
            for one, other in itertools.product((rule, twice, thrice), repeat=2):
                self.assertEqual(same(one, other, "a"), ("same",))
                self.assertEqual(same_plainly(one, other, "a"), ("same",))

    def test_words_of_a_hundred_signs(self):
        # The images that are held against one another have ten thousand signs each.
        for many in range(1, 5):
            rule = tuple(["abcd"[:many] * (100 // many)] * many)
            self.assert_as_told(rule, rule, "a")
            self.assertEqual(same(rule, rule, "a"), ("same",))
        one = ("a" * 100, "b" * 100)
        self.assertEqual(same(one, ("a" * 100, "b" * 99 + "a"), "a"), ("open",))
        self.assertEqual(same(one, ("a" * 99, "b"), "a"), ("same",))


class TestPlaces(SameTest):
    def test_the_first_place_of_all(self):
        # Both words begin with the start, so place 1 is the first that may be unlike.
        self.assertEqual(same(("ab", "b" * 9), ("aa", "b"), "a"), ("unlike", 1))
        for rule in TWO_LETTERS:
            for other in TWO_LETTERS[::5]:
                if grows_plainly(rule, "a") and grows_plainly(other, "a"):
                    self.assertNotEqual(same_plainly(rule, other, "a"), ("unlike", 0))

    def test_unlike_up_to_place_999(self):
        for place in [100, 101, 199, 200, 500, 899, 900, 901, 990, 997, 998, 999]:
            one, other = unlike_at(place)
            self.assertEqual(endless_word(one, "a", place), endless_word(other, "a", place))
            self.assertNotEqual(endless_word(one, "a", place + 1), endless_word(other, "a", place + 1))
            self.assertEqual(same(one, other, "a"), ("unlike", place))
            self.assertEqual(same(other, one, "a"), ("unlike", place))

    def test_unlike_beyond_place_999(self):
        for place in [1000, 1001, 1002, 1099, 1100, 2000, 5000]:
            one, other = unlike_at(place)
            self.assertEqual(endless_word(one, "a", place), endless_word(other, "a", place))
            self.assertNotEqual(endless_word(one, "a", place + 1), endless_word(other, "a", place + 1))
            self.assertEqual(same(one, other, "a"), ("open",))
            self.assertEqual(same(other, one, "a"), ("open",))

    def test_told_as_same_they_are_alike_far_out(self):
        for rules in (TWO_LETTERS[::3], FOUR_LETTERS):
            rules = [rule for rule in rules if grows_plainly(rule, "a") and turns_to(rule, "a", 999) < 401]
            for rule, other in itertools.product(rules, repeat=2):
                if same(rule, other, "a") == ("same",):
                    self.assertEqual(endless_word(rule, "a", 5000), endless_word(other, "a", 5000))


class TestRefusals(SameTest):
    def test_turns_to_place_999(self):
        for rule, turns in [(ONE_MORE, 999), (TWO_MORE, 500), (THREE_MORE, 333)]:
            self.assertEqual(turns_to(rule, "a", 999), turns)

    def test_too_great(self):
        for slow in (ONE_MORE, TWO_MORE, ("ab", "c", "c"), ("ab", "c", "d", "d"), ("ab", "c", "b")):
            like = DOUBLES + ("c", "d")[:len(slow) - 2]
            self.assert_refused(TooGreat, slow, slow, "a")
            self.assert_refused(TooGreat, slow, like, "a")
            self.assert_refused(TooGreat, like, slow, "a")

    def test_333_turns_are_not_too_many(self):
        self.assertEqual(same(THREE_MORE, THREE_MORE, "a"), ("same",))
        self.assertEqual(same(THREE_MORE, ("abbbb", "b"), "a"), ("same",))
        self.assertEqual(same(THREE_MORE, ("abbb", "bb"), "a"), ("open",))
        self.assertEqual(same(THREE_MORE, DOUBLES, "a"), ("unlike", 3))

    def test_too_great_goes_ahead_of_what_would_be_told(self):
        self.assert_refused(TooGreat, ONE_MORE, ("aa", "b"), "a")
        self.assert_refused(TooGreat, ("aa", "b"), ONE_MORE, "a")
        self.assert_refused(TooGreat, ONE_MORE, ("ab", "bb"), "a")

    def test_no_start(self):
        for rule in TWO_LETTERS:
            for start in "abcd":
                if not grows_plainly(rule, start):
                    self.assert_refused(NoStart, rule, rule, start)
                    self.assert_refused(NoStart, rule, DOUBLES, start)
                    self.assert_refused(NoStart, DOUBLES, rule, start)

    def test_letters_that_have_no_word(self):
        for many in range(1, 5):
            rule = tuple(letter * 2 for letter in "abcd"[:many])
            for start in "abcd"[:many]:
                self.assertEqual(same(rule, rule, start), ("same",))
            for start in "abcd"[many:]:
                self.assert_refused(NoStart, rule, rule, start)

    def test_no_start_goes_ahead_of_too_great(self):
        for stuck in [("a", "b"), ("ba", "ab"), ("b", "bb")]:
            self.assert_refused(NoStart, ONE_MORE, stuck, "a")
            self.assert_refused(NoStart, stuck, ONE_MORE, "a")
            self.assert_refused(NoStart, stuck, stuck, "a")
        self.assert_refused(NoStart, ONE_MORE, ("ab", "ba"), "b")
        self.assert_refused(NoStart, ("ab", "ba"), ONE_MORE, "b")


class TestAskedAgain(SameTest):
    def test_the_same_answers_behind_refusals_and_other_askings(self):
        def answers():
            return [
                same(DOUBLES, ("abba", "baab"), "a"), same(DOUBLES, GOLDEN, "a"),
                same(("aa", "b"), ("aa", "a"), "a"),
            ]

        before = answers()
        for again in range(2):
            self.assert_refused(TooGreat, ONE_MORE, DOUBLES, "a")
            self.assert_refused(NoStart, DOUBLES, GOLDEN, "b")
        same(GOLDEN, DOUBLES, "a")
        self.assertEqual(answers(), before)


class TestGoodTime(unittest.TestCase):
    def test_the_bounds(self):
        began = time.perf_counter()
        for place in range(100, 1200, 50):
            one, other = unlike_at(place)
            same(one, other, "a")
            same(THREE_MORE, THREE_MORE, "a")
            with self.assertRaises(TooGreat):
                same(ONE_MORE, DOUBLES, "a")
        self.assertLess(time.perf_counter() - began, 20)


if __name__ == "__main__":
    unittest.main()
