import functools
import time
import unittest

from neveragain.errors import TooGreat, WordError
from neveragain.parted import parted
from neveragain.repeats import repeat_in
from written import first_repeat, parted_plainly, stretches_with_periods, words_of

DOUBLES = (2, 1, False)
OVERLAPS = (2, 1, True)
TRIPLES = (3, 1, False)
LIMITS = [
    DOUBLES, OVERLAPS, TRIPLES, (3, 1, True), (4, 1, False), (100, 1, False), (100, 1, True),
    (3, 2, False), (3, 2, True), (4, 3, False), (4, 3, True), (5, 3, False), (5, 2, True),
    (7, 4, False), (7, 4, True), (7, 5, False), (7, 5, True), (4, 2, False), (100, 50, True),
    (100, 99, False), (100, 99, True), (100, 33, False), (39, 25, True),
]
SMALL = [
    (many, limit, length)
    for limit in LIMITS
    for many, longest in [(1, 9), (2, 8), (3, 5), (4, 4)]
    for length in range(1, longest + 1)
]
# With so many letters and for this limit, how many words are looked at up to a length.
# Up to sixty signs nothing comes near to two thousand, so these are somewhat longer.
LOOKED_AT = [
    (2, (30, 13, False), 314, 1999), (2, (30, 13, False), 315, 2000), (2, (37, 16, False), 315, 2000),
    (2, (39, 17, False), 319, 2001), (2, (16, 7, True), 322, 2001), (2, (30, 13, True), 316, 2002),
]


@functools.cache
def stretches_of(word):
    return stretches_with_periods(word)


@functools.cache
def repeat_plainly(word, limit):
    return first_repeat(stretches_of(word), limit)


@functools.cache
def repeat_once(word, limit):
    return repeat_in(word, limit)


class PartedTest(unittest.TestCase):
    def assert_too_great(self, many, limit, length):
        with self.assertRaises(WordError, msg=(many, limit, length)) as taken:
            parted(many, limit, length)
        self.assertIs(type(taken.exception), TooGreat)
        self.assertEqual(taken.exception.most, 2000)

    def assert_kinds(self, told):
        self.assertIs(type(told), tuple)
        self.assertEqual(len(told), {"word": 3, "none": 2}[told[0]])
        self.assertIs(type(told[-1]), list)
        for case in told[-1]:
            self.assertIs(type(case), tuple)
            self.assertEqual(len(case), 2)
            self.assertIs(type(case[1]), tuple)

    def assert_as_looked_at(self, many, limit, length, repeat_of):
        word, cases, looked_at = parted_plainly(many, limit, length, repeat_of)
        self.assertLessEqual(looked_at, 2000)
        wanted = ("none", cases) if word is None else ("word", word, cases)
        self.assertEqual(parted(many, limit, length), wanted, (many, limit, length))


class TestToldOnes(PartedTest):
    def test_told_ones(self):
        for many, limit, length, wanted in [
            (1, DOUBLES, 1, ("word", "a", [])),
            (1, DOUBLES, 2, ("none", [("aa", (0, 2, 1))])),
            (1, DOUBLES, 60, ("none", [("aa", (0, 2, 1))])),
            (1, OVERLAPS, 2, ("word", "aa", [])),
            (1, OVERLAPS, 3, ("none", [("aaa", (0, 3, 1))])),
            (1, (60, 1, True), 60, ("word", "a" * 60, [])),
            (1, (60, 1, False), 60, ("none", [("a" * 60, (0, 60, 1))])),
            (1, (100, 1, False), 60, ("word", "a" * 60, [])),
            (2, DOUBLES, 1, ("word", "a", [])),
            (2, DOUBLES, 3, ("word", "aba", [("aa", (0, 2, 1))])),
            (2, DOUBLES, 4, ("none", [
                ("aa", (0, 2, 1)), ("abaa", (2, 2, 1)), ("abab", (0, 4, 2)), ("abb", (1, 2, 1)),
                ("baa", (1, 2, 1)), ("baba", (0, 4, 2)), ("babb", (2, 2, 1)), ("bb", (0, 2, 1)),
            ])),
            (2, TRIPLES, 4, ("word", "aaba", [("aaa", (0, 3, 1))])),
            (3, DOUBLES, 5, ("word", "abaca", [
                ("aa", (0, 2, 1)), ("abaa", (2, 2, 1)), ("abab", (0, 4, 2)),
            ])),
            (4, (4, 3, True), 4, ("word", "abca", [
                ("aa", (0, 2, 1)), ("aba", (0, 3, 2)), ("abb", (1, 2, 1)),
            ])),
            (4, (4, 3, False), 4, ("word", "abcd", [
                ("aa", (0, 2, 1)), ("aba", (0, 3, 2)), ("abb", (1, 2, 1)),
                ("abca", (0, 4, 3)), ("abcb", (1, 3, 2)), ("abcc", (2, 2, 1)),
            ])),
        ]:
            with self.subTest(many=many, limit=limit, length=length):
                self.assertEqual(parted(many, limit, length), wanted)

    def test_kinds(self):
        for many, limit, length in SMALL:
            self.assert_kinds(parted(many, limit, length))


class TestAgainstWordsWrittenOut(PartedTest):
    def test_as_looked_at_one_by_one(self):
        for many, limit, length in SMALL:
            self.assert_as_looked_at(many, limit, length, repeat_plainly)

    def test_the_found_word_is_the_least_of_all_free_ones(self):
        for many, limit, length in SMALL:
            free = [word for word in words_of(many, length) if repeat_plainly(word, limit) is None]
            told = parted(many, limit, length)
            self.assertEqual(told[1:-1], tuple(free[:1]), (many, limit, length))
            self.assertEqual(told[0], "word" if free else "none")

    def test_the_cases_are_all_that_fail_ahead_by_their_last_sign(self):
        for many, limit, length in SMALL:
            told = parted(many, limit, length)
            failing = []
            for size in range(1, length + 1):
                for word in words_of(many, size):
                    if repeat_plainly(word[:-1], limit) is None and repeat_plainly(word, limit) is not None:
                        failing.append((word, repeat_plainly(word, limit)))
            if told[0] == "word":
                failing = [case for case in failing if case[0] < told[1]]
            self.assertEqual(told[-1], sorted(failing), (many, limit, length))

    def test_where_none_is_found_each_word_begins_with_a_case(self):
        for many, limit, length in [(2, DOUBLES, 6), (2, (7, 4, True), 9), (3, (7, 5, True), 8), (1, TRIPLES, 9)]:
            told = parted(many, limit, length)
            self.assertEqual(told[0], "none")
            for word in words_of(many, length):
                self.assertEqual(sum(word.startswith(case) for case, repeat in told[1]), 1, word)


class TestLongerWords(PartedTest):
    def test_each_length_up_to_sixty(self):
        for many, limit in [(2, OVERLAPS), (2, TRIPLES), (3, DOUBLES), (3, (7, 4, True)), (4, (7, 5, True))]:
            for length in range(1, 61):
                self.assert_as_looked_at(many, limit, length, repeat_once)

    def test_sixty_signs_at_all_limits(self):
        for limit in LIMITS:
            for many in range(1, 5):
                if (many, limit) != (3, (7, 4, False)):
                    self.assert_as_looked_at(many, limit, 60, repeat_once)

    def test_none_from_some_length_on(self):
        for many, limit, longest in [
            (1, DOUBLES, 1), (1, TRIPLES, 2), (2, DOUBLES, 3), (2, (7, 4, True), 3), (3, (7, 5, True), 4),
            (3, (3, 2, True), 10), (1, (60, 1, False), 59),
        ]:
            self.assertEqual(parted(many, limit, longest)[0], "word", (many, limit))
            told = parted(many, limit, longest + 1)
            self.assertEqual(told[0], "none")
            for length in (longest + 2, 30, 59, 60):
                if length > longest:
                    self.assertEqual(parted(many, limit, length), told)

    def test_a_hundred_signs_are_not_refused(self):
        self.assert_as_looked_at(3, DOUBLES, 100, repeat_once)
        self.assert_as_looked_at(1, (100, 1, False), 70, repeat_once)


class TestTwoThousand(PartedTest):
    def test_just_two_thousand_and_just_more(self):
        for many, limit, length, looked_at in LOOKED_AT:
            with self.subTest(many=many, limit=limit, length=length):
                if looked_at > 2000:
                    self.assert_too_great(many, limit, length)
                    continue
                told = parted(many, limit, length)
                self.assertEqual(told[0], "word")
                self.assertEqual(len(told[1]), length)
                self.assertIsNone(repeat_in(told[1], limit))
                # Each word but the empty one lies on the way to the found one, or is reached
                # from a free one like all its neighbours.
                self.assertEqual(self.looked_at(many, told), looked_at)

    def looked_at(self, many, told):
        """From the cases and the found word alone: all their beginnings."""
        met = {told[1][:size] for size in range(len(told[1]) + 1)}
        for case, repeat in told[2]:
            met.update(case[:size] for size in range(len(case) + 1))
        return len(met)

    def first_words(self, many, limit, length):
        looked_at = []

        def repeat_of(word, limit):
            looked_at.append(word)
            if len(looked_at) > 2000:
                raise OverflowError
            return repeat_once(word, limit)

        return parted_plainly(many, limit, length, repeat_of)

    def test_the_length_at_which_they_get_too_many(self):
        for many, limit in [(3, (7, 4, False)), (3, (26, 15, True)), (3, (71, 41, False)), (2, (30, 13, False))]:
            refused = 0
            for length in range(1, 61):
                try:
                    word, cases, looked_at = self.first_words(many, limit, length)
                except OverflowError:
                    self.assert_too_great(many, limit, length)
                    refused += 1
                    continue
                wanted = ("none", cases) if word is None else ("word", word, cases)
                self.assertEqual(parted(many, limit, length), wanted)
            self.assertEqual(refused > 0, many == 3, limit)


class TestAskedAgain(PartedTest):
    def test_a_list_told_is_the_askers_own(self):
        for many, length in [(2, 9), (3, 9)]:
            before = parted(many, DOUBLES, length)
            told = parted(many, DOUBLES, length)
            told[-1][0] = None
            told[-1].append(("", None))
            self.assertEqual(parted(many, DOUBLES, length), before)

    def test_the_same_answers_behind_refusals_and_other_askings(self):
        def answers():
            return [parted(3, DOUBLES, 40), parted(2, OVERLAPS, 60), parted(2, DOUBLES, 5), parted(1, TRIPLES, 2)]

        before = answers()
        for again in range(2):
            self.assert_too_great(3, (7, 4, False), 60)
        parted(4, DOUBLES, 40)
        parted(3, OVERLAPS, 40)
        self.assertEqual(answers(), before)
        self.assert_too_great(3, (7, 4, False), 60)


class TestGoodTime(unittest.TestCase):
    def test_the_bounds(self):
        began = time.perf_counter()
        for top in range(2, 101, 7):
            for bottom in range(1, top, 7):
                for many in range(1, 5):
                    for above in (False, True):
                        try:
                            parted(many, (top, bottom, above), 60)
                        except TooGreat:
                            pass
        self.assertLess(time.perf_counter() - began, 30)


if __name__ == "__main__":
    unittest.main()
