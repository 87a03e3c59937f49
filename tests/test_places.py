import itertools
import math
import time
import unittest

from neveragain.counts import counts, counts_behind, sizes
from neveragain.errors import NoStart, TooGreat
from neveragain.places import counts_to, figures, grows, letter_at, stretch_at
from neveragain.rules import image
from written import (
    FOUR_LETTERS,
    RULES,
    endless_word,
    growing,
    grows_plainly,
    put_often,
)

DOUBLES = ("ab", "ba")
GOLDEN = ("ab", "a")
ROUNDS = ("abc", "bca", "cab")
FAR = 10 ** 30
LINE = ("ab", "b")
SQUARE = ("ab", "bc", "c")
CUBE = ("ab", "bc", "cd", "d")
SLOW = [LINE, SQUARE, CUBE]
GROWING = growing(RULES)
FAR_PLACES = [10 ** 6, 10 ** 15 + 7, FAR - 2000, FAR - 1, FAR]
FAST = [
    (DOUBLES, "a"), (DOUBLES, "b"), (GOLDEN, "a"), (ROUNDS, "c"), (("aa",), "a"),
    (("ab", "c", "d", "a"), "a"), (("abdc", "cb", "ccdd", "dcba"), "d"),
    (("a" + "b" * 99, "ba" * 50), "a"), (("b", "bbc", "ba"), "b"),
    (("a" * 98 + "ba", "bc", "c"), "a"), (("d", "a", "b", "d" * 99 + "c"), "d"),
]

# Each with a letter from which it doesn't grow.
NOT_GROWING = [
    (("a",), "a"), (("aa",), "b"), (("aa",), "d"), (("a", "b"), "a"), (("ba", "b"), "a"),
    (("ba", "ab"), "a"), (("ba", "ab"), "b"), (("ab", "b"), "b"), (("ab", "ba"), "c"),
    (("ab", "ba"), "d"), (("b", "bb"), "a"), (("abc", "ac", "b"), "b"),
    (("abc", "ac", "b"), "c"), (("abc", "ac", "b"), "d"), (("bbbb", "b", "c", "da"), "a"),
    (("b" * 100, "b" * 100), "a"),
]


def slow_size(rule, turns):
    """The sizes of LINE, SQUARE and CUBE from a, by the numbers of choices."""
    return sum(math.comb(turns, taken) for taken in range(len(rule)))


class PlaceTest(unittest.TestCase):
    def assert_too_great(self, asked, *handed):
        with self.assertRaises(TooGreat, msg=handed) as taken:
            asked(*handed)
        self.assertEqual(taken.exception.most, 400)

    def assert_no_start(self, asked, *handed):
        with self.assertRaises(NoStart, msg=handed):
            asked(*handed)


class TestGrows(unittest.TestCase):
    def test_told_ones(self):
        for rule, wanted in [
            (("a",), ""), (("aa",), "a"), (("a" * 100,), "a"), (DOUBLES, "ab"), (GOLDEN, "a"),
            (("ba", "ab"), ""), (("a", "ba"), "b"), (("a", "b"), ""), (("b", "bb"), "b"),
            (("abc", "ac", "b"), "a"), (("ca", "cb", "cc"), "c"), (("ab", "bc", "cd", "da"), "abcd"),
            (("b", "a", "d", "dc"), "d"), (("a" + "b" * 99, "b"), "a"),
        ]:
            for start in "abcd":
                with self.subTest(rule=rule, start=start):
                    self.assertIs(grows(rule, start), start in wanted)

    def test_all_small_rules(self):
        for rule in RULES:
            for start in "abcd":
                self.assertIs(grows(rule, start), grows_plainly(rule, start))

    def test_a_letter_without_a_word(self):
        for rule, start in NOT_GROWING:
            self.assertIs(grows(rule, start), False)


class TestFigures(PlaceTest):
    def test_told_figures(self):
        for rule, start, n, wanted in [
            (DOUBLES, "a", 0, []),
            (DOUBLES, "b", 0, []),
            (DOUBLES, "a", 1, [(1, "b")]),
            (DOUBLES, "a", 2, [(1, "b"), (0, "b")]),
            (DOUBLES, "a", 3, [(1, "b"), (1, "a")]),
            (DOUBLES, "a", 6, [(1, "b"), (1, "a"), (0, "a")]),
            (DOUBLES, "b", 6, [(1, "a"), (1, "b"), (0, "b")]),
            (GOLDEN, "a", 4, [(1, "b"), (0, "a"), (1, "b")]),
            (("aaa",), "a", 5, [(1, "a"), (2, "a")]),
            (LINE, "a", 4, [(1, "b"), (0, "b"), (0, "b"), (0, "b")]),
        ]:
            with self.subTest(rule=rule, start=start, n=n):
                told = figures(rule, start, n)
                self.assertEqual(told, wanted)
                self.assertIs(type(told), list)
                self.assertEqual({type(pair) for pair in told} | {tuple}, {tuple})

    def assert_lead_to(self, rule, start, n, pairs):
        """Each pair tells a sign of the word before it, and the sum of all ahead is n."""
        word = rule["abcd".index(start)]
        total = 0
        for number, (step, letter) in enumerate(pairs):
            self.assertTrue(0 <= step < len(word), (rule, start, n))
            self.assertEqual(word[step], letter, (rule, start, n))
            ahead = counts(word[:step], len(rule))
            total += sum(counts_behind(rule, ahead, len(pairs) - 1 - number))
            word = rule["abcd".index(letter)]
        self.assertEqual(total, n, (rule, start))

    def test_against_words_written_out(self):
        for rule, start in GROWING:
            turns = 0
            made = start
            for n in range(40):
                while len(made) <= n:
                    made = put_often(rule, made, 1)
                    turns += 1
                pairs = figures(rule, start, n)
                self.assertEqual(len(pairs), turns, (rule, start, n))
                self.assert_lead_to(rule, start, n, pairs)
                ending = pairs[-1][1] if pairs else start
                self.assertEqual(ending, made[n], (rule, start, n))

    def test_sums_against_words_written_out(self):
        for rule, start in GROWING[::9]:
            for n in (1, 2, 5, 13, 30):
                pairs = figures(rule, start, n)
                word = rule["abcd".index(start)]
                total = 0
                for number, (step, letter) in enumerate(pairs):
                    total += len(put_often(rule, word[:step], len(pairs) - 1 - number))
                    word = rule["abcd".index(letter)]
                self.assertEqual(total, n, (rule, start))

    def test_far_out(self):
        for rule, start in FAST:
            at = "abcd".index(start)
            for n in FAR_PLACES:
                pairs = figures(rule, start, n)
                turns = len(pairs)
                self.assertGreater(sizes(rule, turns)[at], n)
                self.assertLessEqual(sizes(rule, turns - 1)[at], n)
                self.assert_lead_to(rule, start, n, pairs)

    def test_words_of_one_size_give_the_figures_of_the_number(self):
        for size, rule in [(2, DOUBLES), (3, ROUNDS), (100, ("a" * 100,)), (2, ("aa",))]:
            for n in [0, 1, 99, 100, 12345, 10 ** 20, FAR - 1, FAR]:
                digits = []
                left = n
                while left > 0:
                    digits.insert(0, left % size)
                    left //= size
                self.assertEqual([step for step, letter in figures(rule, "a", n)], digits)

    def test_sizes_are_the_bounds_of_a_number_of_pairs(self):
        for rule, start in FAST:
            at = "abcd".index(start)
            for turns in (1, 2, 3, 15):
                size = sizes(rule, turns)[at]
                self.assertEqual(len(figures(rule, start, size - 1)), turns)
                self.assertEqual(len(figures(rule, start, size)), turns + 1)

    def test_up_to_four_hundred_turns(self):
        for rule in SLOW:
            size = slow_size(rule, 400)
            pairs = figures(rule, "a", size - 1)
            self.assertEqual(len(pairs), 400)
            self.assert_lead_to(rule, "a", size - 1, pairs)
            self.assertEqual(len(figures(rule, "a", slow_size(rule, 399))), 400)
            self.assertEqual(len(figures(rule, "a", slow_size(rule, 399) - 1)), 399)

    def test_more_than_four_hundred_turns(self):
        for rule in SLOW:
            size = slow_size(rule, 400)
            for n in (size, size + 1, 2 * size, 10 ** 12, FAR):
                self.assert_too_great(figures, rule, "a", n)
                self.assert_too_great(letter_at, rule, "a", n)

    def test_a_letter_beside_that_gets_immense(self):
        rule = ("ab", "b", "c" * 100)
        self.assertEqual(len(figures(rule, "a", 400)), 400)
        self.assert_too_great(figures, rule, "a", 401)

    def test_a_list_told_is_the_askers_own(self):
        for n in (0, 6):
            before = figures(DOUBLES, "a", n)
            told = figures(DOUBLES, "a", n)
            told.append((0, "a"))
            told[0] = None
            self.assertEqual(figures(DOUBLES, "a", n), before)


class TestLetterAt(PlaceTest):
    def test_against_words_written_out(self):
        for rule, start in GROWING:
            word = endless_word(rule, start, 60)
            told = "".join(letter_at(rule, start, n) for n in range(60))
            self.assertEqual(told, word, (rule, start))

    def test_farther_on_against_words_written_out(self):
        for rule, start in FAST + [(SQUARE, "a"), (CUBE, "a")]:
            word = endless_word(rule, start, 30000)
            for n in itertools.chain(range(300, 30000, 997), range(29950, 30000)):
                self.assertEqual(letter_at(rule, start, n), word[n], (rule, start, n))

    def test_the_letter_is_that_of_the_last_pair(self):
        for rule, start in FAST:
            self.assertEqual(letter_at(rule, start, 0), start)
            for n in FAR_PLACES:
                self.assertEqual(letter_at(rule, start, n), figures(rule, start, n)[-1][1])

    def test_doubles_by_the_ones_of_the_number(self):
        for n in list(range(50)) + FAR_PLACES:
            odd = bin(n).count("1") % 2
            self.assertEqual(letter_at(DOUBLES, "a", n), "ab"[odd])
            self.assertEqual(letter_at(DOUBLES, "b", n), "ba"[odd])

    def test_rounds_by_the_sum_of_the_figures(self):
        for n in list(range(50)) + FAR_PLACES:
            total = 0
            left = n
            while left > 0:
                total += left % 3
                left //= 3
            self.assertEqual(letter_at(ROUNDS, "a", n), "abc"[total % 3])
            self.assertEqual(letter_at(ROUNDS, "b", n), "bca"[total % 3])

    def test_golden_by_the_golden_ratio(self):
        # How many b stand in the first n signs: the whole part of (n + 1) over the ratio squared.
        def b_up_to(n):
            return (3 * (n + 1) - math.isqrt(5 * (n + 1) ** 2) - 1) // 2

        for n in list(range(60)) + FAR_PLACES:
            wanted = "ab"[b_up_to(n + 1) - b_up_to(n)]
            self.assertEqual(letter_at(GOLDEN, "a", n), wanted, n)

    def test_slow_words_by_their_form(self):
        self.assertEqual([letter_at(LINE, "a", n) for n in (0, 1, 399, 400)], ["a", "b", "b", "b"])
        # SQUARE makes a b bc bcc bccc and so on, each b behind one c more.
        begins = {1 + block * (block + 1) // 2 for block in range(400)}
        last = slow_size(SQUARE, 400) - 1
        for n in itertools.chain(range(1, 200), range(last - 900, last + 1)):
            self.assertEqual(letter_at(SQUARE, "a", n), "b" if n in begins else "c", n)

    def test_somewhat_farther_out_is_not_refused(self):
        n = FAR + 12345
        self.assertEqual(letter_at(DOUBLES, "a", n), "ab"[bin(n).count("1") % 2])


class TestOwnImage(unittest.TestCase):
    def test_the_endless_word_is_its_own_image(self):
        for rule, start in GROWING:
            word = stretch_at(rule, start, 0, 30)
            made = image(rule, word)
            self.assertEqual(stretch_at(rule, start, 0, len(made)), made, (rule, start))

    def test_also_far_out(self):
        for rule, start in FAST:
            for n in FAR_PLACES:
                made = image(rule, stretch_at(rule, start, n, 15))
                place = sum(counts_behind(rule, counts_to(rule, start, n), 1))
                self.assertEqual(stretch_at(rule, start, place, len(made)), made, (rule, n))


class TestStretchAt(PlaceTest):
    def test_against_words_written_out(self):
        for rule, start in GROWING:
            word = endless_word(rule, start, 60)
            for n, many in [(0, 1), (0, 2), (0, 60), (1, 1), (1, 59), (7, 5), (30, 30), (59, 1)]:
                self.assertEqual(stretch_at(rule, start, n, many), word[n:n + many], (rule, start))

    def test_all_small_stretches(self):
        for rule, start in FAST + [(LINE, "a"), (SQUARE, "a"), (CUBE, "a")]:
            word = endless_word(rule, start, 60)
            for n in range(30):
                for many in range(1, 31):
                    told = stretch_at(rule, start, n, many)
                    self.assertEqual(told, word[n:n + many], (rule, start))

    def test_two_thousand_signs(self):
        for rule, start in FAST + [(SQUARE, "a"), (CUBE, "a")]:
            word = endless_word(rule, start, 30000)
            for n in (0, 1, 1999, 12345, 28000):
                self.assertEqual(stretch_at(rule, start, n, 2000), word[n:n + 2000])

    def test_far_out_sign_by_sign(self):
        for rule, start in FAST:
            for n in FAR_PLACES:
                told = stretch_at(rule, start, n, 40)
                signs = [letter_at(rule, start, place) for place in range(n, n + 40)]
                self.assertEqual(told, "".join(signs))
                self.assertEqual(stretch_at(rule, start, n, 1), told[0])
                long = stretch_at(rule, start, n, 2000)
                self.assertEqual(len(long), 2000)
                self.assertEqual(long[:40], told)
                self.assertEqual(long[-40:], stretch_at(rule, start, n + 1960, 40))

    def test_across_the_sizes_of_the_start(self):
        for rule, start in FAST:
            at = "abcd".index(start)
            for turns in (1, 5, 15):
                first = max(0, sizes(rule, turns)[at] - 10)
                signs = [letter_at(rule, start, place) for place in range(first, first + 20)]
                self.assertEqual(stretch_at(rule, start, first, 20), "".join(signs))

    def test_up_to_the_last_place_that_is_not_refused(self):
        for rule in SLOW:
            size = slow_size(rule, 400)
            for many in (1, 2, 17, 300):
                told = stretch_at(rule, "a", size - many, many)
                signs = [letter_at(rule, "a", n) for n in range(size - many, size)]
                self.assertEqual(told, "".join(signs))
        self.assertEqual(stretch_at(LINE, "a", 0, 401), "a" + "b" * 400)
        last = slow_size(SQUARE, 400) - 1
        self.assertEqual(stretch_at(SQUARE, "a", last - 399, 400), "b" + "c" * 399)

    def test_refused_where_one_of_its_places_is(self):
        for rule in SLOW:
            size = slow_size(rule, 400)
            for n, many in [
                (size - 1, 2), (size - 17, 18), (size, 1), (size - 300, 301), (size - 1, 2000),
                (size + 5, 3), (FAR, 1), (FAR, 2000),
            ]:
                self.assert_too_great(stretch_at, rule, "a", n, many)
        self.assert_too_great(stretch_at, LINE, "a", 0, 402)
        self.assert_too_great(stretch_at, LINE, "a", 0, 2000)

    def test_somewhat_more_signs_are_not_refused(self):
        self.assertEqual(stretch_at(GOLDEN, "a", 0, 2001), endless_word(GOLDEN, "a", 2001))
        self.assertEqual(len(stretch_at(DOUBLES, "a", FAR + 1, 2100)), 2100)


class TestCountsTo(PlaceTest):
    def test_told_counts(self):
        for rule, start, n, wanted in [
            (DOUBLES, "a", 0, [0, 0]),
            (DOUBLES, "a", 1, [1, 0]),
            (DOUBLES, "b", 1, [0, 1]),
            (DOUBLES, "a", 3, [1, 2]),
            (GOLDEN, "a", 8, [5, 3]),
            (("aa",), "a", 77, [77]),
            (("aa", "b", "c", "d"), "a", 7, [7, 0, 0, 0]),
            (LINE, "a", 400, [1, 399]),
        ]:
            with self.subTest(rule=rule, start=start, n=n):
                told = counts_to(rule, start, n)
                self.assertEqual(told, wanted)
                self.assertIs(type(told), list)

    def test_against_words_written_out(self):
        for rule, start in GROWING:
            word = endless_word(rule, start, 40)
            for n in range(40):
                wanted = [word[:n].count(letter) for letter in "abcd"[:len(rule)]]
                self.assertEqual(counts_to(rule, start, n), wanted, (rule, start, n))

    def test_farther_on_against_words_written_out(self):
        for rule, start in FAST + [(SQUARE, "a"), (CUBE, "a")]:
            word = endless_word(rule, start, 30000)
            for n in (1000, 4096, 12345, 29999):
                wanted = [word[:n].count(letter) for letter in "abcd"[:len(rule)]]
                self.assertEqual(counts_to(rule, start, n), wanted, (rule, start, n))

    def test_far_out(self):
        half = FAR // 2
        self.assertEqual(counts_to(DOUBLES, "a", FAR), [half, half])
        self.assertEqual(counts_to(("aa",), "a", FAR), [FAR])
        third = (FAR - 1) // 3
        self.assertEqual(counts_to(ROUNDS, "a", FAR - 1), [third] * 3)
        only_first = ("a" + "b" * 99, "b" * 100)
        self.assertEqual(counts_to(only_first, "a", FAR), [1, FAR - 1])

    def test_far_out_they_grow_by_the_stretch_between(self):
        for rule, start in FAST:
            for n in FAR_PLACES:
                here = counts_to(rule, start, n)
                self.assertEqual(sum(here), n)
                for many in (1, 2, 50, 2000):
                    between = stretch_at(rule, start, n, many)
                    there = counts_to(rule, start, n + many)
                    wanted = [here[k] + between.count("abcd"[k]) for k in range(len(rule))]
                    self.assertEqual(there, wanted, (rule, n, many))

    def test_up_to_four_hundred_turns(self):
        self.assertEqual(counts_to(LINE, "a", 400), [1, 399])
        last = slow_size(SQUARE, 400) - 1
        self.assertEqual(counts_to(SQUARE, "a", last), [1, 400, last - 401])
        last = slow_size(CUBE, 400) - 1
        told = counts_to(CUBE, "a", last)
        # All but the last sign of what a has come to.
        self.assertEqual(told, [1, 400, math.comb(400, 2), math.comb(400, 3) - 1])

    def test_refused_where_the_place_is(self):
        for rule in SLOW:
            size = slow_size(rule, 400)
            for n in (size, size + 1, FAR):
                self.assert_too_great(counts_to, rule, "a", n)

    def test_a_list_told_is_the_askers_own(self):
        for n in (0, 1, 9):
            before = counts_to(DOUBLES, "a", n)
            told = counts_to(DOUBLES, "a", n)
            told[0] = 55
            told.append(1)
            self.assertEqual(counts_to(DOUBLES, "a", n), before)


class TestNoStart(PlaceTest):
    def test_ahead_of_all_else(self):
        for rule, start in NOT_GROWING:
            for n in (0, 1, 400, 401, FAR):
                self.assert_no_start(figures, rule, start, n)
                self.assert_no_start(letter_at, rule, start, n)
                self.assert_no_start(counts_to, rule, start, n)
                for many in (1, 2000):
                    self.assert_no_start(stretch_at, rule, start, n, many)

    def test_all_small_rules(self):
        for rule in RULES:
            for start in "abcd":
                if not grows_plainly(rule, start):
                    self.assert_no_start(figures, rule, start, 0)
                    self.assert_no_start(letter_at, rule, start, 0)
                    self.assert_no_start(counts_to, rule, start, 0)
                    self.assert_no_start(stretch_at, rule, start, 0, 1)


class TestAskedAgain(PlaceTest):
    def test_the_same_answers_behind_other_askings_and_refusals(self):
        def answers():
            return [
                grows(GOLDEN, "a"), grows(GOLDEN, "b"), figures(GOLDEN, "a", 77),
                letter_at(LINE, "a", 400), stretch_at(ROUNDS, "b", FAR, 30),
                counts_to(SQUARE, "a", 5000), figures(DOUBLES, "a", FAR),
            ]

        before = answers()
        for rule in FOUR_LETTERS + [GOLDEN, LINE, ROUNDS, SQUARE]:
            for start in "abcd":
                for asked, handed in [
                    (figures, (FAR,)), (letter_at, (FAR,)), (stretch_at, (FAR, 9)),
                    (counts_to, (FAR,)),
                ]:
                    try:
                        asked(rule, start, *handed)
                    except (NoStart, TooGreat):
                        pass
                    self.assertEqual(letter_at(GOLDEN, "a", 5), "a")
        self.assertEqual(answers(), before)


class TestGoodTime(unittest.TestCase):
    def test_far_out(self):
        began = time.perf_counter()
        last = slow_size(CUBE, 400) - 1
        broad = ("a" + "bcd" * 33, "b" * 99 + "a", "cd" * 50, "dcba" * 25)
        for rule, n in [
            (CUBE, last - 1999), (("ab", "c", "d", "a"), FAR), (broad, FAR), (GOLDEN, FAR),
            (("a" + "b" * 99, "b", "c" * 100), 39600 - 1999), (("a" * 98 + "ba", "bc", "c"), FAR),
        ]:
            self.assertEqual(len(stretch_at(rule, "a", n, 2000)), 2000)
            for place in range(n, n + 100):
                letter_at(rule, "a", place)
                counts_to(rule, "a", place)
        self.assertLess(time.perf_counter() - began, 30)


if __name__ == "__main__":
    unittest.main()
