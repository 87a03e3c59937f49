import random
import time
import unittest

from neveragain.repeats import greatest_share, repeat_in
from written import (
    breaks_limit,
    endless_word,
    first_repeat,
    has_period,
    is_free,
    stretches_with_periods,
    widest_share,
    words_of,
)

DOUBLES = (2, 1, False)
TRIPLES = (3, 1, False)
OVERLAPS = (2, 1, True)
LIMITS = [
    DOUBLES, TRIPLES, OVERLAPS, (3, 1, True), (4, 1, False), (100, 1, False), (100, 1, True),
    (3, 2, False), (3, 2, True), (4, 3, False), (4, 3, True), (5, 3, True), (5, 2, False),
    (7, 4, False), (7, 4, True), (4, 2, False), (4, 2, True), (100, 50, True), (100, 99, False),
    (100, 99, True), (100, 33, False), (99, 98, True),
]
THREES = ("abc", "ac", "b")
SMALL = (
    [word for size in range(9) for word in words_of(2, size)]
    + [word for size in range(6) for word in words_of(3, size)]
    + [word for size in range(5) for word in words_of(4, size)]
)


def mixed_words(sizes, seed):
    scattered = random.Random(seed)
    made = []
    for size in sizes:
        word = ""
        while len(word) < size:
            # Parts of what is there come back, so that long periods are met too.
            place = scattered.randrange(len(word) + 1)
            word += word[place:place + scattered.randrange(1, 12)] + scattered.choice("abcd")
        made.append(word[:size])
    return made


def run_lengths(word):
    """For each period, the places with the longest stretch that has it, extended sign by sign."""
    found = []
    for period in range(1, len(word)):
        for place in range(len(word) - period):
            end = place + period
            while end < len(word) and word[end] == word[end - period]:
                end += 1
            found.append((end - place, period, place))
    return found


class TestRepeat(unittest.TestCase):
    def test_told_ones(self):
        for word, limit, wanted in [
            ("aa", DOUBLES, (0, 2, 1)),
            ("aa", OVERLAPS, None),
            ("aaa", OVERLAPS, (0, 3, 1)),
            ("aa", TRIPLES, None),
            ("aaa", TRIPLES, (0, 3, 1)),
            ("abab", DOUBLES, (0, 4, 2)),
            ("abab", OVERLAPS, None),
            ("ababa", OVERLAPS, (0, 5, 2)),
            ("ababa", TRIPLES, None),
            ("ababab", TRIPLES, (0, 6, 2)),
            ("abcab", DOUBLES, None),
            ("abcab", (5, 3, False), (0, 5, 3)),
            ("abcab", (5, 3, True), None),
            ("abcab", (4, 3, False), (0, 4, 3)),
            ("abcab", (4, 3, True), (0, 5, 3)),
            ("aba", (3, 2, False), (0, 3, 2)),
            ("aba", (3, 2, True), None),
            ("cabcabb", DOUBLES, (0, 6, 3)),
            ("dcbabbb", DOUBLES, (4, 2, 1)),
        ]:
            with self.subTest(word=word, limit=limit):
                told = repeat_in(word, limit)
                self.assertEqual(told, wanted)
                self.assertIs(type(told), type(wanted))

    def test_all_short_words_at_all_limits(self):
        for word in SMALL:
            stretches = stretches_with_periods(word)
            for limit in LIMITS:
                self.assertEqual(repeat_in(word, limit), first_repeat(stretches, limit), (word, limit))

    def test_longer_words(self):
        for word in mixed_words(range(9, 40), 1):
            stretches = stretches_with_periods(word)
            for limit in LIMITS:
                self.assertEqual(repeat_in(word, limit), first_repeat(stretches, limit), (word, limit))

    def test_all_small_limits(self):
        limits = [
            (top, bottom, above)
            for top in range(2, 9) for bottom in range(1, top) for above in (False, True)
        ]
        for word in mixed_words([12, 20, 30], 2) + ["aaaaaaaaaaaa", "abababababab", "abcabcabcabc"]:
            stretches = stretches_with_periods(word)
            for limit in limits:
                self.assertEqual(repeat_in(word, limit), first_repeat(stretches, limit), (word, limit))

    def test_the_first_end_goes_ahead_of_the_least_period(self):
        self.assertEqual(repeat_in("ababb", DOUBLES), (0, 4, 2))
        self.assertEqual(repeat_in("abcabcc", DOUBLES), (0, 6, 3))

    def test_of_several_that_end_first_the_least_period(self):
        for word, wanted in [
            ("abcacdcabca", (6, 5, 3)),
            ("abacabcbdcabacab", (9, 7, 4)),
            ("abacdadbdcdabacda", (9, 8, 5)),
            ("abacadabcacbadabacadab", (12, 10, 6)),
            ("abacbcdabcacbdcdabacbcdab", (14, 11, 7)),
        ]:
            stretches = stretches_with_periods(word)
            breaking = [each for each in stretches if breaks_limit(each[2], each[1], (3, 2, True))]
            self.assertEqual([end for end, period, length, place in breaking], [len(word)] * 2)
            self.assertEqual(repeat_in(word, (3, 2, True)), wanted)
            self.assertEqual(first_repeat(stretches, (3, 2, True)), wanted)

    def test_limits_with_the_same_share_are_alike(self):
        for word in SMALL[::7] + mixed_words([30, 60], 3):
            for above in (False, True):
                one = repeat_in(word, (2, 1, above))
                self.assertEqual(repeat_in(word, (100, 50, above)), one)
                self.assertEqual(repeat_in(word, (66, 33, above)), one)

    def test_the_empty_word_and_single_signs(self):
        for limit in LIMITS:
            for word in ("", "a", "b", "c", "d"):
                self.assertIsNone(repeat_in(word, limit))

    def test_three_hundred_signs_alike(self):
        word = "d" * 300
        for limit, wanted in [
            (DOUBLES, (0, 2, 1)), (OVERLAPS, (0, 3, 1)), (TRIPLES, (0, 3, 1)),
            ((100, 1, False), (0, 100, 1)), ((100, 1, True), (0, 101, 1)),
            ((100, 99, False), (0, 2, 1)), ((100, 99, True), (0, 2, 1)),
            ((100, 3, False), (0, 34, 1)), ((100, 3, True), (0, 34, 1)),
            ((99, 3, False), (0, 33, 1)), ((99, 3, True), (0, 34, 1)),
        ]:
            self.assertEqual(repeat_in(word, limit), wanted, limit)

    def test_a_hundred_times_a_period(self):
        self.assertEqual(repeat_in("abc" * 100, (100, 1, False)), (0, 300, 3))
        self.assertIsNone(repeat_in("abc" * 99 + "ab", (100, 1, False)))
        self.assertIsNone(repeat_in("abc" * 100, (100, 1, True)))
        self.assertEqual(repeat_in("c" + "ab" * 100 + "a" + "dd", (100, 1, True)), (1, 201, 2))

    def test_three_hundred_signs_free_of_doubles(self):
        word = endless_word(THREES, "a", 300)
        self.assertTrue(is_free(word))
        for limit in (DOUBLES, OVERLAPS, TRIPLES):
            self.assertIsNone(repeat_in(word, limit))
        self.assertEqual(repeat_in(word[:299] + word[298], DOUBLES), (298, 2, 1))
        self.assertEqual(repeat_in(word[:150] * 2, DOUBLES), self.first_double(word[:150] * 2))

    def first_double(self, word):
        for end in range(2, len(word) + 1):
            for half in range(1, end // 2 + 1):
                if word[end - half:end] == word[end - 2 * half:end - half]:
                    return (end - 2 * half, 2 * half, half)
        return None

    def test_first_doubles_of_long_words(self):
        three = endless_word(THREES, "a", 300)
        for place in range(1, 299, 9):
            for sign in "abcd":
                word = three[:place] + sign + three[place + 1:]
                self.assertEqual(repeat_in(word, DOUBLES), self.first_double(word))

    def test_the_word_of_doubles_has_no_overlap(self):
        word = endless_word(("ab", "ba"), "a", 300)
        self.assertIsNone(repeat_in(word, OVERLAPS))
        self.assertEqual(repeat_in(word, DOUBLES), (1, 2, 1))
        self.assertIsNone(repeat_in(endless_word(("ab", "a"), "a", 300), (4, 1, False)))

    def test_somewhat_longer_words_are_not_refused(self):
        self.assertIsNone(repeat_in(endless_word(THREES, "a", 320), DOUBLES))
        self.assertEqual(repeat_in("ab" * 160, (100, 1, False)), (0, 200, 2))


class TestGreatestShare(unittest.TestCase):
    def test_told_ones(self):
        for word, wanted in [
            ("abcab", (5, 3, 0)),
            ("abc", (1, 1, 0)),
            ("a", (1, 1, 0)),
            ("d", (1, 1, 0)),
            ("ab", (1, 1, 0)),
            ("abcd", (1, 1, 0)),
            ("aa", (2, 1, 0)),
            ("abb", (2, 1, 1)),
            ("abab", (4, 2, 0)),
            ("aba", (3, 2, 0)),
            ("abcdab", (6, 4, 0)),
            ("abcb", (3, 2, 1)),
            ("abcbacb", (5, 3, 2)),
            ("aabb", (2, 1, 0)),
            ("ababcc", (2, 1, 4)),
        ]:
            with self.subTest(word=word):
                told = greatest_share(word)
                self.assertEqual(told, wanted)
                self.assertIs(type(told), tuple)

    def test_all_short_words(self):
        for word in SMALL:
            if word != "":
                wanted = widest_share(stretches_with_periods(word), word)
                self.assertEqual(greatest_share(word), wanted, word)

    def test_longer_words(self):
        for word in mixed_words(range(9, 40), 4):
            wanted = widest_share(stretches_with_periods(word), word)
            self.assertEqual(greatest_share(word), wanted, word)

    def test_three_hundred_signs(self):
        self.assertEqual(greatest_share("b" * 300), (300, 1, 0))
        self.assertEqual(greatest_share("abc" * 100), (300, 3, 0))
        self.assertEqual(greatest_share("d" + "ab" * 149 + "c"), (298, 2, 1))
        self.assertEqual(greatest_share("c" * 20 + "ab" * 130 + "d" * 20), (260, 2, 20))

    def test_of_several_the_least_period_then_what_begins_first(self):
        self.assertEqual(greatest_share("ab" * 100 + "c" * 100), (100, 1, 200))
        self.assertEqual(greatest_share("abc" * 59 + "d" + "ab" * 59), (118, 2, 178))
        self.assertEqual(greatest_share("a" * 100 + "b" * 100 + "c" * 100), (100, 1, 0))
        self.assertEqual(greatest_share("d" + "abab" + "c" + "baba" + "d" + "acac"), (4, 2, 1))
        self.assertEqual(greatest_share("ab" * 20 + "cd" * 45 + "a" + "c" * 45), (45, 1, 131))

    def test_three_hundred_mixed_signs(self):
        words = mixed_words([300, 300, 299], 5)
        for word in words + [endless_word(THREES, "a", 300), endless_word(("ab", "a"), "a", 300)]:
            best = (1, 1, 0)
            for length, period, place in run_lengths(word):
                if length * best[1] > best[0] * period:
                    best = (length, period, place)
            self.assertEqual(greatest_share(word), best)
            length, period, place = best
            self.assertTrue(has_period(word[place:place + length], period))

    def test_it_is_the_limit_that_the_word_breaks(self):
        for word in mixed_words([5, 10, 20, 40], 6) + ["abcab", "aabaab", "abcdabcd"]:
            length, period, place = greatest_share(word)
            self.assertIsNone(repeat_in(word, (length, period, True)))
            self.assertIsNotNone(repeat_in(word, (length, period, False)))

    def test_somewhat_longer_words_are_not_refused(self):
        self.assertEqual(greatest_share("ab" * 160), (320, 2, 0))


class TestAskedAgain(unittest.TestCase):
    def test_the_same_answers_behind_other_askings(self):
        def answers():
            return [
                repeat_in("cabcabb", DOUBLES), repeat_in("abcab", (4, 3, True)),
                repeat_in("abc", DOUBLES), greatest_share("abcab"), greatest_share("abc"),
            ]

        before = answers()
        for word in SMALL[1::50]:
            repeat_in(word, TRIPLES)
            greatest_share(word)
        self.assertEqual(answers(), before)


class TestGoodTime(unittest.TestCase):
    def test_words_of_three_hundred_signs(self):
        words = [endless_word(THREES, "a", 300), "abc" * 100, "a" * 300] + mixed_words([300] * 7, 7)
        began = time.perf_counter()
        for word in words:
            for limit in LIMITS:
                repeat_in(word, limit)
            greatest_share(word)
        self.assertLess(time.perf_counter() - began, 20)


if __name__ == "__main__":
    unittest.main()
