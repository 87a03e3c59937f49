import itertools
import math
import time
import unittest
from fractions import Fraction

from neveragain.errors import NoShares, WordError
from neveragain.shares import shares
from written import RULES, mixes_plainly, put_often, words_of


def rules_of_size(many, size, step=1):
    return list(itertools.islice(itertools.product(words_of(many, size), repeat=many), 0, None, step))


ONE_SIZE = (
    [("a" * size,) for size in range(1, 8)]
    + rules_of_size(2, 1) + rules_of_size(2, 2) + rules_of_size(2, 4)
    + rules_of_size(3, 2) + rules_of_size(3, 3, 17) + rules_of_size(4, 2, 71)
)
# Each letter goes on to the next one alone, and d back to a: mixing comes late.
RING = tuple(letter * 99 + then for letter, then in zip("abcd", "bcda"))


def has_shares(rule):
    sizes = {len(word) for word in rule}
    return len(sizes) == 1 and max(sizes) > 1 and mixes_plainly(rule)


def solved(rule):
    """All that fits the document's rows, found by taking letters out of them one by one."""
    many = len(rule)
    size = len(rule[0])
    rows = []
    for place, letter in enumerate("abcd"[:many]):
        row = [Fraction(word.count(letter)) for word in rule]
        row[place] -= size
        rows.append(row + [Fraction(0)])
    rows.append([Fraction(1)] * (many + 1))
    done = []
    for column in range(many):
        pivot = next(row for row in rows if row[column] != 0)
        rows.remove(pivot)
        pivot = [number / pivot[column] for number in pivot]
        cleared = []
        for group in (rows, done):
            cleared.append([
                [number - row[column] * other for number, other in zip(row, pivot)] for row in group
            ])
        rows, done = cleared[0], cleared[1] + [pivot]
    assert all(number == 0 for row in rows for number in row)
    return [row[-1] for row in done]


class SharesTest(unittest.TestCase):
    def assert_no_shares(self, rule):
        with self.assertRaises(WordError, msg=rule) as taken:
            shares(rule)
        self.assertIs(type(taken.exception), NoShares, rule)

    def assert_right(self, rule):
        told = shares(rule)
        self.assertIs(type(told), list)
        self.assertEqual(len(told), len(rule))
        for pair in told:
            self.assertIs(type(pair), tuple)
            top, bottom = pair
            self.assertGreater(top, 0)
            self.assertGreaterEqual(bottom, 1)
            self.assertEqual(math.gcd(top, bottom), 1)
        each = [Fraction(top, bottom) for top, bottom in told]
        self.assertEqual(sum(each), 1)
        for share, letter in zip(each, "abcd"):
            put = sum(other * word.count(letter) for other, word in zip(each, rule))
            self.assertEqual(share * len(rule[0]), put, rule)
        self.assertEqual(each, solved(rule), rule)


class TestToldOnes(SharesTest):
    def test_told_ones(self):
        for rule, wanted in [
            (("aa",), [(1, 1)]),
            (("a" * 100,), [(1, 1)]),
            (("ab", "ba"), [(1, 2), (1, 2)]),
            (("ab", "aa"), [(2, 3), (1, 3)]),
            (("aab", "aaa"), [(3, 4), (1, 4)]),
            (("abb", "bba"), [(1, 3), (2, 3)]),
            (("abb", "aab"), [(1, 2), (1, 2)]),
            (("abc", "bca", "aab"), [(5, 12), (1, 3), (1, 4)]),
            (("ab", "bc", "ca"), [(1, 3), (1, 3), (1, 3)]),
            (("ab", "ac", "ad", "aa"), [(8, 15), (4, 15), (2, 15), (1, 15)]),
            (("ab", "cd", "ad", "dc"), [(1, 4), (1, 8), (1, 4), (3, 8)]),
        ]:
            with self.subTest(rule=rule):
                self.assert_right(rule)
                self.assertEqual(shares(rule), wanted)


class TestRulesOfOneSize(SharesTest):
    def test_all_small_rules(self):
        told = 0
        for rule in ONE_SIZE:
            if has_shares(rule):
                self.assert_right(rule)
                told += 1
            else:
                self.assert_no_shares(rule)
        self.assertGreater(told, 1000)

    def test_each_size_from_2_to_100(self):
        for size in range(2, 101):
            for many in range(1, 5):
                known = "abcd"[:many]
                rule = tuple(letter * (size - 1) + then for letter, then in zip(known, known[1:] + "a"))
                self.assertTrue(has_shares(rule))
                self.assert_right(rule)
                uneven = ("a" * (size - 1) + known[-1],) + tuple(
                    then + letter * (size - 1) for letter, then in zip(known, known[1:])
                )
                self.assertEqual(has_shares(uneven), True, uneven)
                self.assert_right(uneven)

    def test_great_bottoms(self):
        rule = ("a" * 99 + "b", "b" * 98 + "ca", "c" * 97 + "dab", "d" * 61 + "a" * 13 + "b" * 19 + "c" * 7)
        self.assert_right(rule)
        self.assert_right(RING)
        self.assertEqual(shares(RING), [(1, 4)] * 4)

    def test_they_are_what_turned_words_come_near_to(self):
        for rule in [
            ("ab", "aa"), ("abc", "bca", "aab"), ("ab", "ac", "ad", "aa"), ("abb", "bba"), ("abcc", "caab", "bcba"),
        ]:
            for letter in "abcd"[:len(rule)]:
                word = put_often(rule, letter, 14 if len(rule[0]) == 2 else 8)
                for known, (top, bottom) in zip("abcd", shares(rule)):
                    near = Fraction(word.count(known), len(word)) - Fraction(top, bottom)
                    self.assertLess(abs(near), Fraction(1, 300))


class TestNoShares(SharesTest):
    def test_all_other_rules(self):
        refused = 0
        for rule in RULES:
            if has_shares(rule):
                self.assert_right(rule)
            else:
                self.assert_no_shares(rule)
                refused += 1
        self.assertGreater(refused, 200)

    def test_words_of_one_sign(self):
        for rule in [("a",), ("b", "a"), ("a", "b"), ("b", "c", "a"), ("b", "c", "d", "a")]:
            self.assert_no_shares(rule)

    def test_unlike_sizes(self):
        for rule in [
            ("ab", "a"), ("ab", "bab"), ("abc", "bca", "ca"), ("a" * 99 + "b", "a" * 99),
            ("abcd", "bcda", "cdab", "dabcd"),
        ]:
            self.assertTrue(mixes_plainly(rule))
            self.assert_no_shares(rule)

    def test_rules_that_do_not_mix(self):
        for rule in [
            ("aa", "bb"), ("ab", "bb"), ("bb", "aa"), ("aa", "ab"), ("ab", "ba", "cc"),
            ("bb", "cc", "aa"), ("bb", "cd", "aa", "aa"), ("ab", "ba", "cd", "dc"), ("bc", "aa", "aa"),
            ("a" * 100, "b" * 100),
        ]:
            self.assertFalse(mixes_plainly(rule))
            self.assert_no_shares(rule)

    def test_unlike_sizes_that_do_not_mix_either(self):
        for rule in [("ab", "b"), ("a", "bb"), ("aa", "b", "ccc")]:
            self.assert_no_shares(rule)


class TestAskedAgain(SharesTest):
    def test_a_list_told_is_the_askers_own(self):
        before = shares(("ab", "aa"))
        told = shares(("ab", "aa"))
        told[0] = (9, 9)
        told.append(None)
        self.assertEqual(shares(("ab", "aa")), before)

    def test_the_same_answers_behind_refusals_and_other_askings(self):
        def answers():
            return [shares(("ab", "aa")), shares(("abc", "bca", "aab")), shares(RING)]

        before = answers()
        for again in range(2):
            self.assert_no_shares(("ab", "a"))
            self.assert_no_shares(("ab", "bb"))
        shares(("ab", "ba"))
        self.assertEqual(answers(), before)


class TestGoodTime(unittest.TestCase):
    def test_words_of_a_hundred_signs(self):
        began = time.perf_counter()
        for again in range(200):
            shares(RING)
        self.assertLess(time.perf_counter() - began, 10)


if __name__ == "__main__":
    unittest.main()
