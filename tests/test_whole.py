"""The promise over the whole program: the stages' answers held against one another."""

import copy
import unittest
from fractions import Fraction

from neveragain.again import distance, mixes
from neveragain.counts import counts, counts_behind, sizes, table
from neveragain.desk import Desk
from neveragain.errors import TooGreat, WordError
from neveragain.keeping import free_words, keeps, looked_length
from neveragain.parted import parted
from neveragain.pieces import pieces
from neveragain.places import counts_to, figures, grows, letter_at, stretch_at
from neveragain.repeats import greatest_share, repeat_in
from neveragain.rules import behind, image, is_rule, read_rule, turned, written_rule
from neveragain.same import same
from neveragain.shares import shares
from neveragain.words import is_word, letters
from written import RULES, first_places, growing, is_free

DOUBLES = (2, 1, False)
SOME = growing(RULES)[::6]
PLACES = [0, 1, 2, 7, 100, 12345, 10 ** 15, 10 ** 30]

ASKED = [
    (letters, (3,)), (is_word, ("abba", 2)), (is_rule, (("ab", "ba"),)), (image, (("ab", "ba"), "abb")),
    (turned, (("ab", "ba"), "a", 5)), (behind, (("ab", "ba"), ("ab", "a"))), (read_rule, ("ab ba",)),
    (written_rule, (("ab", "ba"),)), (counts, ("abbab", 3)), (table, (("ab", "ba"),)),
    (counts_behind, (("ab", "a"), [3, 1], 7)), (counts_behind, (("ab", "a"), [3, 1], 0)), (sizes, (("ab", "a"), 9)),
    (grows, (("ab", "a"), "a")), (figures, (("ab", "a"), "a", 10 ** 9)), (letter_at, (("ab", "a"), "a", 10 ** 9)),
    (stretch_at, (("ab", "a"), "a", 10 ** 9, 30)), (counts_to, (("ab", "a"), "a", 10 ** 9)),
    (pieces, (("ab", "a"), "a", 6)), (mixes, (("ab", "a"),)), (distance, (("ab", "a"), "a", "aba")),
    (repeat_in, ("abcabcb", DOUBLES)), (greatest_share, ("abcabcb",)), (free_words, (3, 5)),
    (looked_length, (("abcab", "b"),)), (keeps, (("b", "a"),)), (keeps, (("ab", "a"),)), (parted, (3, DOUBLES, 20)),
    (parted, (2, DOUBLES, 20)), (same, (("ab", "ba"), ("abba", "baab"), "a")), (same, (("ab", "ba"), ("ab", "a"), "a")),
    (shares, (("ab", "aa"),)),
]


def reached(asked, *handed):
    """The answer, or None where it is refused as too great."""
    try:
        return asked(*handed)
    except TooGreat:
        return None


def scribble(told):
    if isinstance(told, list):
        for each in told:
            scribble(each)
        told.append("scribbled")
        told[0] = None
    if isinstance(told, tuple):
        for each in told:
            scribble(each)


class TestThePromise(unittest.TestCase):
    def test_figures_lead_to_the_sign_step_by_step(self):
        for rule, start in SOME:
            for n in PLACES:
                told = reached(figures, rule, start, n)
                if told is None:
                    continue
                letter, ahead = start, 0
                for k, (step, told_letter) in enumerate(told):
                    word = rule["abcd".index(letter)]
                    self.assertEqual(word[step], told_letter)
                    grown = counts_behind(rule, counts(word[:step], len(rule)), len(told) - 1 - k)
                    ahead += sum(grown)
                    letter = told_letter
                self.assertEqual(ahead, n, (rule, start))
                self.assertEqual(letter_at(rule, start, n), letter)

    def test_the_endless_word_is_its_own_image(self):
        for rule, start in SOME:
            for n in PLACES:
                window = reached(stretch_at, rule, start, n, 10)
                ahead = reached(counts_to, rule, start, n)
                if window is None:
                    continue
                made = image(rule, window)
                there = sum(counts_behind(rule, ahead, 1))
                stands = reached(stretch_at, rule, start, there, len(made))
                if stands is not None:
                    self.assertEqual(stands, made, (rule, start, n))

    def test_pieces_stand_at_their_first_places(self):
        for rule, start in SOME:
            for length in (1, 4):
                told = reached(pieces, rule, start, length)
                word = reached(stretch_at, rule, start, 0, 380)
                if told is None or word is None:
                    continue
                near = {piece: place for piece, place in told if place + length <= 380}
                self.assertEqual(near, first_places(word, length), (rule, start))
                for piece, place in told:
                    self.assertEqual(reached(stretch_at, rule, start, place, length) or piece, piece)

    def test_a_piece_stands_again_within_the_distance(self):
        for rule, start in SOME:
            if not mixes(rule):
                continue
            for piece, first in pieces(rule, start, 3):
                gap, place = distance(rule, start, piece)
                for n in (first, place):
                    window = stretch_at(rule, start, n, gap + 3)
                    self.assertTrue(window.startswith(piece))
                    self.assertGreaterEqual(window.find(piece, 1), 1, (rule, start, piece))
                self.assertEqual(stretch_at(rule, start, place, gap + 3).find(piece, 1), gap)

    def test_kept_or_broken(self):
        for rule in RULES[4::5]:
            told = keeps(rule)
            if told[0] == "keeps":
                for word in told[1] + free_words(len(rule), looked_length(rule) + 1):
                    self.assertTrue(is_free(word))
                    self.assertTrue(is_free(image(rule, word)), (rule, word))
            else:
                made = image(rule, told[1])
                place, length, period = told[2]
                self.assertTrue(is_free(told[1]))
                self.assertEqual(length, 2 * period)
                self.assertEqual(made[place:place + period], made[place + period:place + length])

    def test_parted_cases(self):
        for many, limit in [
            (1, DOUBLES), (2, DOUBLES), (2, (2, 1, True)), (3, DOUBLES), (3, (7, 4, True)), (4, (7, 5, True)),
        ]:
            for length in (1, 5, 30, 60):
                told = parted(many, limit, length)
                for word, repeat in told[-1]:
                    self.assertEqual(repeat_in(word, limit), repeat)
                    self.assertIsNone(repeat_in(word[:-1], limit))
                    place, size, period = repeat
                    self.assertEqual(place + size, len(word))
                if told[0] == "word":
                    self.assertIsNone(repeat_in(told[1], limit))
                    self.assertEqual([word for word, repeat in told[2] if word > told[1]], [])

    def test_least_words_free_of_doubles_are_the_first_of_all(self):
        for many in range(1, 5):
            for length in range(1, 6):
                told = parted(many, DOUBLES, length)
                self.assertEqual(list(told[1:-1]), free_words(many, length)[:1])

    def test_a_rule_and_what_it_makes_turned_twice_make_the_same_word(self):
        for rule, start in SOME:
            try:
                twice = behind(rule, rule)
                self.assertEqual(same(rule, twice, start), ("same",))
            except TooGreat:
                pass

    def test_shares_are_what_the_counts_come_near_to(self):
        for rule in [("ab", "aa"), ("abb", "bba"), ("abc", "bca", "aab"), ("ab", "ac", "ad", "aa")]:
            for counted, (top, bottom) in zip(counts_to(rule, "a", 10 ** 30), shares(rule)):
                near = Fraction(counted, 10 ** 30) - Fraction(top, bottom)
                self.assertLess(abs(near), Fraction(1, 10 ** 6))


class TestAskedAgain(unittest.TestCase):
    def test_the_same_again_whatever_was_asked_or_changed(self):
        before = [copy.deepcopy(asked(*handed)) for asked, handed in ASKED]
        for asked, handed in ASKED:
            scribble(asked(*handed))
        desk = Desk()
        for row in ("rule ab a", "start a", "pieces 6", "letter x", "again d", "keeps", "shares", "rule b"):
            try:
                desk.say(row)
            except WordError:
                pass
        for asked, handed in reversed(ASKED):
            asked(*handed)
        self.assertEqual([asked(*handed) for asked, handed in ASKED], before)

    def test_nothing_is_written_into_what_is_handed_in(self):
        for asked, handed in ASKED:
            kept = copy.deepcopy(handed)
            asked(*handed)
            self.assertEqual(handed, kept, asked)


if __name__ == "__main__":
    unittest.main()
