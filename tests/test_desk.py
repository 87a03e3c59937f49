import random
import re
import time
import unittest

from neveragain.again import distance, mixes
from neveragain.desk import Desk
from neveragain.errors import (
    NoPiece,
    NoRow,
    NoRule,
    NoShares,
    NoStart,
    NotMixed,
    TooGreat,
    WordError,
)
from neveragain.keeping import keeps
from neveragain.pieces import pieces
from neveragain.places import counts_to, letter_at, stretch_at
from neveragain.repeats import repeat_in
from neveragain.rules import is_rule, read_rule, written_rule
from neveragain.shares import shares
from written import (
    FOUR_LETTERS,
    THREE_LETTERS,
    TWO_LETTERS,
    endless_word,
    first_places,
    first_repeat,
    growing,
    grows_plainly,
    mixes_plainly,
    stretches_with_periods,
    widest_gap,
    words_of,
)

NINES = "9" * 30
MOST = 10 ** 30 - 1
# Of these there are just 300 pieces of twelve signs and 333 of thirteen; 303 of twelve, 275 of eleven.
JUST_300 = ("aababcbdcdb", "d", "bbccacbacbbb", "cda")
OVER_300 = ("accbbdbdadcc", "cba", "b", "cabcdcdbccdd")
# Nothing breaks up to five signs, and six are to be looked at: more than 800 words.
LOOKED_LONG = ("abcab", "acabcb", "acbcacb", "d")

ASKS_OF_WORD = [
    "letter 0", "letter 7", "letter " + NINES, "stretch 0 1", "stretch 5 200", "counts 0", "counts 12",
    "pieces 1", "pieces 20", "again a", "again ab", "again dddddddddddd",
]
ASKS_OF_RULE = ["mixes", "keeps", "shares"]
STARTS = ["start a", "start b", "start c", "start d"]
REPEATS = [
    ("repeat a 2 1 from", "none"), ("repeat aa 2 1 from", "0 2 1"), ("repeat aa 2 1 above", "none"),
    ("repeat aaa 2 1 above", "0 3 1"), ("repeat cabab 2 1 from", "1 4 2"), ("repeat cabab 2 1 above", "none"),
    ("repeat abcab 5 3 from", "0 5 3"), ("repeat abcab 5 3 above", "none"), ("repeat dcbabbb 3 1 from", "4 3 1"),
    ("repeat dd 100 99 above", "0 2 1"), ("repeat d 100 1 from", "none"),
    ("repeat " + "d" * 300 + " 100 1 from", "0 100 1"), ("repeat " + "abc" * 100 + " 100 1 from", "0 300 3"),
    ("repeat " + "abc" * 100 + " 100 1 above", "none"),
]
NO_ROWS = [
    "", " ", "  ", "\n", "\t", "a", "ab ba", "0", "7", "ok", "none", "yes", "no", "help", "quit", "desk", "ruleab",
    "rule", "Rule ab ba", "RULE ab ba", " rule ab ba", "rule\tab ba", "rule\nab ba", "rules ab ba", "\nrule ab ba",
    "start", "start ", "start  a", " start a", "start a ", "start a b", "start ab", "start abcd", "start bc",
    "start e", "start A", "start 0", "Start a", "start\ta", "start a\n", "start a\t", "starta", "START a",
    "letter", "letter ", "letter  0", " letter 0", "letter 0 ", "letter 0 0", "letter 00", "letter 01",
    "letter 007", "letter -1", "letter +1", "letter 1.0", "letter 1e3", "letter a", "letter 1_0", "letter 1,0",
    "letter 0x1", "letter 1x", "letter 1a", "letter 1\n", "letter \t1", "letter\t1", "Letter 1", "letters 1",
    "letter1", "letter -0",
    "letter " + NINES + "9", "letter 1" + "0" * 30, "letter 0" + NINES, "letter " + "0" * 30, "letter " + "0" * 31,
    "letter " + "1" * 5000, "letter " + "0" * 5000,
    "stretch", "stretch ", "stretch 0", "stretch 0 ", "stretch 0 0", "stretch 0 201", "stretch 0 200 ",
    "stretch 0 01", "stretch 0 0200", "stretch  0 1", "stretch 0  1", " stretch 0 1", "stretch 0 1 1",
    "stretch 00 1", "stretch 0 -1", "stretch 0 a", "stretch a 1", "stretch " + NINES + "9 1",
    "stretch 0 " + NINES, "stretch 0 " + NINES + "9", "stretch 0 1000", "Stretch 0 1", "stretch 0 1\n",
    "counts", "counts ", "counts  0", "counts 0 ", "counts 0 1", "counts 00", "counts 05", "counts -1", "counts a",
    "counts " + NINES + "9", "Counts 0", "count 0", "counts 0\t", " counts 0",
    "pieces", "pieces ", "pieces 0", "pieces 21", "pieces 00", "pieces 01", "pieces 020", "pieces -1", "pieces 1 ",
    "pieces  1", " pieces 1", "pieces 1 1", "pieces a", "pieces 100", "pieces " + NINES, "pieces " + NINES + "9",
    "Pieces 1", "pieces 1\n", "piece 1",
    "again", "again ", "again  a", " again a", "again a ", "again a b", "again e", "again abe", "again A", "again AB",
    "again 1", "again abcdabcdabcda", "again " + "a" * 13, "again " + "a" * 300, "Again a", "again a\n", "again\ta",
    "mixes ", " mixes", "mixes a", "mixes  ", "Mixes", "MIXES", "mix", "mixes\n", "mixes\t", "mixes 1", "mixesa",
    "keeps ", " keeps", "keeps a", "Keeps", "keep", "keeps\n", "keeps 3", "shares ", " shares", "shares a",
    "Shares", "share", "shares\n", "shares 1",
    "repeat", "repeat ", "repeat a", "repeat a 2", "repeat a 2 1", "repeat a 2 1 ", "repeat  2 1 from",
    "repeat 2 1 from", "repeat a 2 1 from ", "repeat a 2 1  from", "repeat a 2  1 from", "repeat a  2 1 from",
    "repeat  a 2 1 from", " repeat a 2 1 from", "repeat a 2 1 from above", "repeat a 2 1 From", "repeat a 2 1 FROM",
    "repeat a 2 1 Above", "repeat a 2 1 at", "repeat a 2 1 True", "repeat a 2 1 fromabove", "repeat a 2 1 fro",
    "repeat a 2 1 0", "repeat a 1 1 from", "repeat a 1 2 from", "repeat a 2 2 from", "repeat a 100 100 above",
    "repeat a 2 0 from", "repeat a 0 0 from", "repeat a 0 1 from", "repeat a 1 0 from", "repeat a 101 1 from",
    "repeat a 101 100 from", "repeat a 101 101 above", "repeat a 02 1 from", "repeat a 2 01 from",
    "repeat a 100 0100 from", "repeat a -2 1 from", "repeat a 2 -1 from", "repeat a 1000 1 from",
    "repeat a 99 100 from",
    "repeat a " + NINES + " 1 from", "repeat a " + NINES + "9 1 from", "repeat a 2 " + NINES + " from",
    "repeat a a 1 from", "repeat a 2 a from", "repeat e 2 1 from", "repeat A 2 1 from", "repeat abE 2 1 from",
    "repeat " + "a" * 301 + " 2 1 from", "repeat " + "abcd" * 76 + " 2 1 above", "Repeat a 2 1 from",
    "repeats a 2 1 from", "repeat a 2 1 from\n", "repeat\ta 2 1 from", "repeat a,2,1,from", "repeat a 2/1 from",
    "rule", "start a\nstart a", "mixes\nmixes", "letter 1\nletter 2",
    # Figures and letters of other scripts, and blanks that are none.
    "letter \u0661", "letter \u00b2", "letter 1\u0661", "letter \uff11", "pieces \u0967", "start \u0430",
    "again \uff41", "letter\u00a01", "mixes\u00a0", "stretch 0 \u0661",
]
NO_TEXTS = [
    None, True, False, 0, 1, 7, -1, 2.5, 1j, b"", b"mixes", b"rule ab ba", bytearray(b"mixes"), [], ["mixes"],
    ["rule ab ba"], ("mixes",), ("rule", "ab ba"), {}, {"mixes": "mixes"}, set(), {"mixes"}, frozenset(["keeps"]),
    object(), Desk, Desk(), len, NoRow, NoRow("mixes"), range(3), iter(["mixes"]), memoryview(b"mixes"), [[]],
    Ellipsis, NotImplemented, type, 10 ** 30,
]
NO_RULES = [
    "", " ", "  ", "ab ba ", " ab ba", "ab  ba", "ab", "b", "abc ba", "a b c d a", "ab ba e", "AB BA", "ab,ba",
    "ab\tba", "ab\nba", "ab ba\n", "\tab ba", "1", "a" * 13, "a" * 13 + " b", "ab " + "b" * 13, "rule ab ba",
    "start a", "mixes", "0", "-", "ab ba~", "('ab', 'ba')", "ab b\u0430", "x" * 20000,
]


def is_row_plainly(row):
    """By one pattern for each row, and the bounds of its numbers."""
    if not isinstance(row, str):
        return False
    if re.fullmatch(r"rule .*", row, re.DOTALL) or re.fullmatch(r"start [a-d]|mixes|keeps|shares", row):
        return True
    if re.fullmatch(r"again [a-d]{1,12}|(letter|counts) (0|[1-9][0-9]{0,29})", row):
        return True
    taken = re.fullmatch(r"pieces ([1-9][0-9]{0,29})", row)
    if taken:
        return int(taken[1]) <= 20
    taken = re.fullmatch(r"stretch (0|[1-9][0-9]{0,29}) ([1-9][0-9]{0,29})", row)
    if taken:
        return int(taken[2]) <= 200
    taken = re.fullmatch(r"repeat [a-d]{1,300} ([1-9][0-9]{0,29}) ([1-9][0-9]{0,29}) (from|above)", row)
    if taken:
        return int(taken[2]) < int(taken[1]) <= 100
    return False


class PlainDesk:
    """What the document says of a desk, with the stages asked straight."""

    def __init__(self):
        self.rule = None
        self.start = None

    def say(self, row):
        if not is_row_plainly(row):
            raise NoRow
        name, _, rest = row.partition(" ")
        if name == "rule":
            if not is_rule(tuple(rest.split(" "))) or max(map(len, rest.split(" "))) > 12:
                raise NoRule
            self.rule, self.start = tuple(rest.split(" ")), None
            return "ok"
        if name == "repeat":
            word, top, bottom, way = rest.split(" ")
            told = repeat_in(word, (int(top), int(bottom), {"from": False, "above": True}[way]))
            return "none" if told is None else "%d %d %d" % told
        if self.rule is None:
            raise NoRule
        if name == "start":
            if not grows_plainly(self.rule, rest):
                raise NoStart
            self.start = rest
            return "ok"
        if name in ASKS_OF_RULE:
            return self.of_rule(name)
        if self.start is None:
            raise NoStart
        return self.of_word(name, rest.split(" "))

    def of_rule(self, name):
        if name == "mixes":
            return {True: "yes", False: "no"}[mixes(self.rule)]
        if name == "shares":
            return " ".join("%d/%d" % share for share in shares(self.rule))
        told = keeps(self.rule)
        if told[0] == "keeps":
            return "keeps %d" % len(told[1])
        return "breaks %s %d %d %d" % ((told[1],) + told[2])

    def of_word(self, name, words):
        kept = (self.rule, self.start)
        if name == "again":
            return "%d %d" % distance(*kept, words[0])
        numbers = [int(word) for word in words]
        if name == "letter":
            return letter_at(*kept, *numbers)
        if name == "stretch":
            return stretch_at(*kept, *numbers)
        if name == "counts":
            return " ".join("%d" % number for number in counts_to(*kept, *numbers))
        return ", ".join("%s %d" % piece for piece in pieces(*kept, *numbers))


def desk_with(rule, start=None):
    desk = Desk()
    desk.say("rule " + written_rule(rule))
    if start is not None:
        desk.say("start " + start)
    return desk


def answer_or_refusal(desk, row):
    """What is answered; or the refusal's class, with its most where it has one."""
    try:
        return desk.say(row)
    except WordError as refusal:
        return (type(refusal), getattr(refusal, "most", None))


class DeskTest(unittest.TestCase):
    def assert_refused(self, refusal, desk, row, most=None):
        with self.assertRaises(WordError, msg=repr(row)) as taken:
            desk.say(row)
        self.assertIs(type(taken.exception), refusal, repr(row))
        if refusal is TooGreat:
            self.assertEqual(taken.exception.most, most, row)

    def assert_says(self, desk, row, wanted):
        told = desk.say(row)
        self.assertIs(type(told), str)
        self.assertEqual(told, wanted, row)


class TestAnswers(DeskTest):
    def test_told_ones(self):
        desk = Desk()
        for row, wanted in [
            ("rule ab ba", "ok"), ("start a", "ok"), ("letter 0", "a"), ("letter 7", "b"), ("letter 10", "a"),
            ("stretch 0 8", "abbabaab"), ("stretch 3 1", "a"), ("counts 0", "0 0"), ("counts 7", "4 3"),
            ("pieces 1", "a 0, b 1"), ("pieces 2", "aa 5, ab 0, ba 2, bb 1"), ("again a", "3 0"),
            ("again aa", "8 9"), ("mixes", "yes"), ("keeps", "breaks ab 1 2 1"), ("shares", "1/2 1/2"),
            ("start b", "ok"), ("letter 0", "b"), ("stretch 0 4", "baab"),
            ("rule ab a", "ok"), ("start a", "ok"), ("stretch 0 8", "abaababa"), ("counts 8", "5 3"),
            ("keeps", "breaks ba 0 2 1"),
            ("rule b a", "ok"), ("mixes", "no"), ("keeps", "keeps 6"),
            ("rule aa", "ok"), ("start a", "ok"), ("pieces 20", "a" * 20 + " 0"), ("again aaa", "1 0"),
            ("shares", "1/1"), ("counts " + NINES, NINES), ("keeps", "breaks a 0 2 1"),
            ("rule abc bca aab", "ok"), ("shares", "5/12 1/3 1/4"),
            ("rule abcab acabcb acbcacb", "ok"), ("keeps", "keeps 21"),
            ("rule ab bc c", "ok"), ("mixes", "no"), ("start a", "ok"), ("letter 3", "c"),
        ]:
            self.assert_says(desk, row, wanted)

    def test_places_against_words_written_out(self):
        for rule, start in growing(TWO_LETTERS[::9] + THREE_LETTERS[::9] + FOUR_LETTERS):
            word = endless_word(rule, start, 300)
            desk = desk_with(rule, start)
            for place in (0, 1, 2, 9, 63, 99):
                self.assert_says(desk, f"letter {place}", word[place])
                for many in (1, 2, 50, 199, 200):
                    self.assert_says(desk, f"stretch {place} {many}", word[place:place + many])
                counted = [str(word[:place].count(letter)) for letter in "abcd"[:len(rule)]]
                self.assert_says(desk, f"counts {place}", " ".join(counted))

    def test_pieces_and_distances_against_words_written_out(self):
        for rule in (("ab", "ba"), ("ab", "a"), ("abc", "ac", "b"), ("ab", "c", "d", "a")):
            word = endless_word(rule, "a", 20000)
            desk = desk_with(rule, "a")
            for length in (1, 2, 3, 7, 12, 20):
                found = first_places(word, length)
                wanted = ", ".join(f"{piece} {found[piece]}" for piece in sorted(found))
                self.assert_says(desk, f"pieces {length}", wanted)
            for length in (1, 2, 3, 12):
                for piece in sorted(first_places(word, length)):
                    gap, place = widest_gap(word, piece)
                    self.assert_says(desk, "again " + piece, f"{gap} {place}")

    def test_rules_against_words_written_out(self):
        for rule in TWO_LETTERS + THREE_LETTERS[::5] + FOUR_LETTERS:
            desk = desk_with(rule)
            self.assert_says(desk, "mixes", "yes" if mixes_plainly(rule) else "no")

    def test_keeps_and_shares_with_each_rule(self):
        for rule in TWO_LETTERS[::3] + THREE_LETTERS[::7] + FOUR_LETTERS + [JUST_300, OVER_300]:
            desk, plain = desk_with(rule), PlainDesk()
            plain.rule = rule
            for row in ("keeps", "shares"):
                self.assertEqual(answer_or_refusal(desk, row), answer_or_refusal(plain, row), (rule, row))

    def test_repeats(self):
        for desk in (Desk(), desk_with(("ab", "ba")), desk_with(("ab", "ba"), "a"), desk_with(("a",))):
            for row, wanted in REPEATS:
                self.assert_says(desk, row, wanted)

    def test_repeats_against_words_written_out(self):
        desk = Desk()
        for word in words_of(2, 5) + words_of(3, 4) + words_of(4, 3):
            stretches = stretches_with_periods(word)
            for top, bottom in [(2, 1), (3, 1), (3, 2), (4, 3), (100, 99)]:
                for way in ("from", "above"):
                    told = first_repeat(stretches, (top, bottom, way == "above"))
                    wanted = "none" if told is None else " ".join(str(number) for number in told)
                    self.assert_says(desk, f"repeat {word} {top} {bottom} {way}", wanted)

    def test_far_out(self):
        rule = ("abc", "bca", "aab")
        desk = desk_with(rule, "a")
        for place in (10 ** 29, MOST, 123456789012345678901234567890):
            self.assert_says(desk, f"letter {place}", letter_at(rule, "a", place))
            self.assert_says(desk, f"stretch {place} 200", stretch_at(rule, "a", place, 200))
            counted = counts_to(rule, "a", place)
            self.assertEqual(sum(counted), place)
            self.assert_says(desk, f"counts {place}", " ".join(str(number) for number in counted))

    def test_first_places_and_distances_far_out(self):
        rule = ("a" * 11 + "b", "b" * 11 + "c", "c" * 11 + "d", "d" * 11 + "a")
        desk = desk_with(rule, "a")
        for length in (1, 12):
            wanted = ", ".join(f"{piece} {place}" for piece, place in pieces(rule, "a", length))
            self.assert_says(desk, f"pieces {length}", wanted)
        self.assert_says(desk, "again d", "%d %d" % distance(rule, "a", "d"))
        late = ("a" * 11 + "b", "bc", "c")
        told = desk_with(late, "a").say("pieces 16")
        self.assertEqual(told, ", ".join(f"{piece} {place}" for piece, place in pieces(late, "a", 16)))
        self.assertGreater(int(told.split(" ")[-1]), 10 ** 16)

    def test_bounds(self):
        desk = desk_with(("ab", "ba"), "a")
        self.assertEqual(len(desk.say("stretch 0 1")), 1)
        self.assertEqual(len(desk.say("stretch 0 200")), 200)
        self.assertEqual(len(desk.say("pieces 1").split(", ")), 2)
        self.assertEqual(len(desk.say("pieces 20").split(", ")), len(pieces(("ab", "ba"), "a", 20)))
        self.assert_says(desk, "again abbabaabbaab", "%d %d" % distance(("ab", "ba"), "a", "abbabaabbaab"))
        self.assert_says(desk, "letter " + NINES, letter_at(("ab", "ba"), "a", MOST))
        self.assert_says(desk, "repeat " + "d" * 300 + " 100 99 from", "0 2 1")
        self.assert_says(desk, "repeat d 2 1 from", "none")
        self.assert_says(desk, "repeat d 100 1 above", "none")


class TestRules(DeskTest):
    def test_each_rule_that_is_written(self):
        for rule in [("a",), ("aa",), ("a" * 12,), ("b", "a")] + FOUR_LETTERS + [("abcdabcdabcd",) * 4]:
            desk = Desk()
            self.assert_says(desk, "rule " + written_rule(rule), "ok")
            self.assertEqual(desk.say("mixes"), "yes" if mixes(rule) else "no")

    def test_texts_that_write_none(self):
        for text in NO_RULES:
            with self.assertRaises(NoRule):
                read_rule(text)
            for desk in (Desk(), desk_with(("ab", "ba")), desk_with(("ab", "ba"), "a")):
                self.assert_refused(NoRule, desk, "rule " + text)

    def test_starts(self):
        for rule in TWO_LETTERS[::5] + THREE_LETTERS[::11] + FOUR_LETTERS + [("a",), ("aa",)]:
            for start in "abcd":
                desk = desk_with(rule)
                if grows_plainly(rule, start):
                    self.assert_says(desk, "start " + start, "ok")
                    self.assert_says(desk, "letter 0", start)
                else:
                    self.assert_refused(NoStart, desk, "start " + start)
                    self.assert_refused(NoStart, desk, "letter 0")


class TestNoRow(DeskTest):
    def test_texts_that_are_no_rows(self):
        for row in NO_ROWS:
            self.assertFalse(is_row_plainly(row), row)
            for desk in (Desk(), desk_with(("ab", "ba")), desk_with(("ab", "ba"), "a"), desk_with(("a", "b"))):
                self.assert_refused(NoRow, desk, row)

    def test_things_that_are_no_texts(self):
        for desk in (Desk(), desk_with(("ab", "ba")), desk_with(("ab", "ba"), "a")):
            for thing in NO_TEXTS:
                self.assert_refused(NoRow, desk, thing)

    def test_rows_that_are_rows(self):
        desk = Desk()
        for row in ASKS_OF_WORD + ASKS_OF_RULE + STARTS:
            self.assertTrue(is_row_plainly(row), row)
            self.assert_refused(NoRule, desk, row)

    def test_each_number(self):
        desk = desk_with(("aa",), "a")
        for number in range(0, 260):
            self.assertEqual(answer_or_refusal(desk, f"letter {number}"), "a")
            wanted = "a" * number if 1 <= number <= 200 else (NoRow, None)
            self.assertEqual(answer_or_refusal(desk, f"stretch 9 {number}"), wanted)
            wanted = "a" * number + " 0" if 1 <= number <= 20 else (NoRow, None)
            self.assertEqual(answer_or_refusal(desk, f"pieces {number}"), wanted)
            wanted = "none" if 2 <= number <= 100 else (NoRow, None)
            self.assertEqual(answer_or_refusal(desk, f"repeat a {number} 1 from"), wanted)
            wanted = "none" if 1 <= number <= 99 else (NoRow, None)
            self.assertEqual(answer_or_refusal(desk, f"repeat a 100 {number} from"), wanted)
            wanted = "none" if 1 <= number <= 49 else (NoRow, None)
            self.assertEqual(answer_or_refusal(desk, f"repeat a 50 {number} above"), wanted)

    def test_each_length_of_a_number(self):
        desk = desk_with(("aa",), "a")
        for figures in range(1, 40):
            for name, wanted in (("letter", "a"), ("counts", "1" * figures)):
                if figures > 30:
                    wanted = (NoRow, None)
                self.assertEqual(answer_or_refusal(desk, f"{name} {'1' * figures}"), wanted)
            self.assertEqual(answer_or_refusal(desk, f"letter 0{'1' * figures}"), (NoRow, None))
            self.assertEqual(answer_or_refusal(desk, f"letter {'0' * (figures + 1)}"), (NoRow, None))
            wanted = (NoRow, None) if figures > 30 else "aa"
            self.assertEqual(answer_or_refusal(desk, f"stretch {'1' * figures} 2"), wanted)

    def test_each_length_of_a_word(self):
        desk = desk_with(("aa",), "a")
        for size in range(0, 30):
            wanted = "1 0" if 1 <= size <= 12 else (NoRow, None)
            self.assertEqual(answer_or_refusal(desk, "again " + "a" * size), wanted)
        for size in [0, 1, 2, 298, 299, 300, 301, 302, 1000]:
            wanted = "none" if size == 1 else "0 2 1"
            if size < 1 or size > 300:
                wanted = (NoRow, None)
            self.assertEqual(answer_or_refusal(desk, "repeat " + "c" * size + " 2 1 from"), wanted)


class TestOrder(DeskTest):
    def test_no_row_goes_ahead_of_no_rule_and_no_start(self):
        for row in ("letter 00", "pieces 21", "start e", "again abcdabcdabcda", "mixes ", "stretch 0 0"):
            self.assert_refused(NoRow, Desk(), row)
            self.assert_refused(NoRow, desk_with(("a",)), row)

    def test_no_rule_where_none_is_kept(self):
        for row in ASKS_OF_WORD + ASKS_OF_RULE + STARTS:
            self.assert_refused(NoRule, Desk(), row)

    def test_no_rule_is_asked_by_repeat(self):
        for row, wanted in REPEATS:
            self.assert_says(Desk(), row, wanted)

    def test_no_start_where_none_is_kept(self):
        for rule in [("ab", "ba"), ("a",), ("ab", "b"), JUST_300, OVER_300]:
            for row in ASKS_OF_WORD:
                self.assert_refused(NoStart, desk_with(rule), row)

    def test_no_start_is_asked_of_the_rule_alone(self):
        desk = desk_with(("ab", "ba"))
        self.assert_says(desk, "mixes", "yes")
        self.assert_says(desk, "keeps", "breaks ab 1 2 1")
        self.assert_says(desk, "shares", "1/2 1/2")

    def test_starts_that_are_refused(self):
        for rule, refused in [(("aa",), "bcd"), (("ab", "ba"), "cd"), (("ab", "b"), "bcd"), (("ba", "ab"), "abcd"),
                              (("a", "b", "c", "d"), "abcd"), (("abc", "ac", "b"), "bcd")]:
            for start in refused:
                self.assert_refused(NoStart, desk_with(rule), "start " + start)

    def test_places_too_far_out(self):
        desk = desk_with(("ab", "b"), "a")
        for row in ("letter 400", "stretch 400 1", "stretch 201 200", "counts 400"):
            self.assertNotEqual(desk.say(row), "")
        for row in (
            "letter 401", "letter " + NINES, "stretch 401 1", "stretch 202 200", "stretch 400 2", "counts 401",
            "counts " + NINES, "stretch " + NINES + " 200",
        ):
            self.assert_refused(TooGreat, desk, row, 400)

    def test_too_many_pieces(self):
        for rule, length in [(("ababb", "daacc", "cdd", "bdc"), 20), (("acbc", "cdcbb", "dd", "baa"), 19)]:
            desk = desk_with(rule, "a")
            self.assert_refused(TooGreat, desk, f"pieces {length}", 300)
            self.assertLessEqual(len(desk.say(f"pieces {length - 1}").split(", ")), 300)
        desk = desk_with(("abddc", "bbaad", "cc", "cd"), "a")
        self.assertEqual(len(desk.say("pieces 19").split(", ")), 300)

    def test_what_again_refuses_in_its_order(self):
        for rule in (("ab", "b"), ("ab", "bb"), ("aa", "b")):
            for piece in ("a", "c", "dddddddddddd"):
                self.assert_refused(NotMixed, desk_with(rule, "a"), "again " + piece)
        for piece in ("c", "aaa", "abab" + "ab", "d" * 12):
            self.assert_refused(NoPiece, desk_with(("ab", "ba"), "a"), "again " + piece)
        word = endless_word(OVER_300, "a", 12)
        desk = desk_with(OVER_300, "a")
        self.assertEqual(len(first_places(endless_word(OVER_300, "a", 200000), 12)), 303)
        self.assert_refused(TooGreat, desk, "again " + word, 300)
        self.assert_refused(TooGreat, desk, "again aaaaaaaaaaaa", 300)
        self.assert_refused(TooGreat, desk, "again " + word[:11], 300)
        self.assert_refused(NoPiece, desk, "again aaaaaaaaaaa")
        self.assertEqual(desk.say("again " + word[:10]), "%d %d" % distance(OVER_300, "a", word[:10]))
        word = endless_word(JUST_300, "a", 12)
        desk = desk_with(JUST_300, "a")
        self.assertEqual(len(first_places(endless_word(JUST_300, "a", 200000), 12)), 300)
        self.assert_refused(TooGreat, desk, "again " + word, 300)
        self.assert_refused(NoPiece, desk, "again aaaaaaaaaaaa")
        self.assertEqual(desk.say("again " + word[:11]), "%d %d" % distance(JUST_300, "a", word[:11]))

    def test_what_keeps_refuses(self):
        self.assert_refused(TooGreat, desk_with(LOOKED_LONG), "keeps", 800)

    def test_what_shares_refuses(self):
        for rule in [("ab", "a"), ("a",), ("b", "a"), ("ab", "bb"), ("aa", "bb"), ("ab", "ba", "c")]:
            self.assert_refused(NoShares, desk_with(rule), "shares")


class TestKept(DeskTest):
    def test_what_is_refused_changes_nothing(self):
        desk = desk_with(("ab", "ba"), "b")
        refused = (
            [(NoRow, row) for row in NO_ROWS + NO_TEXTS]
            + [(NoRule, "rule " + text) for text in NO_RULES]
            + [(NoStart, "start c"), (NoStart, "start d"), (NoPiece, "again aaa"), (NoPiece, "again d")]
        )
        for refusal, row in refused:
            self.assert_refused(refusal, desk, row)
            self.assertEqual(desk.say("stretch 0 4"), "baab")
            self.assertEqual(desk.say("shares"), "1/2 1/2")

    def test_a_refused_start_leaves_the_one_that_is_kept(self):
        desk = desk_with(("ab", "b"), "a")
        for row in ("start b", "start c", "start d"):
            self.assert_refused(NoStart, desk, row)
            self.assert_says(desk, "letter 0", "a")
        self.assert_refused(NotMixed, desk, "again a")
        self.assert_refused(TooGreat, desk, "letter 401", 400)
        self.assert_says(desk, "counts 3", "1 2")

    def test_a_refused_rule_leaves_nothing_where_nothing_is_kept(self):
        desk = Desk()
        self.assert_refused(NoRule, desk, "rule ab")
        self.assert_refused(NoRule, desk, "mixes")
        desk = desk_with(("ab", "ba"))
        self.assert_refused(NoRule, desk, "rule ab")
        self.assert_says(desk, "mixes", "yes")
        self.assert_refused(NoStart, desk, "letter 0")

    def test_a_new_rule_keeps_no_start_any_more(self):
        for rule in [("ab", "a"), ("ab", "ba"), ("a", "bb"), ("aa",)]:
            desk = desk_with(("ab", "ba"), "a")
            self.assert_says(desk, "rule " + written_rule(rule), "ok")
            for row in ASKS_OF_WORD:
                self.assert_refused(NoStart, desk, row)
            self.assert_says(desk, "mixes", "yes" if mixes(rule) else "no")

    def test_a_new_start_takes_the_place_of_the_one_before(self):
        desk = desk_with(("ab", "ba"), "a")
        for start in "babba":
            self.assert_says(desk, "start " + start, "ok")
            self.assert_says(desk, "letter 0", start)

    def test_two_desks_keep_each_their_own(self):
        one, other, bare = Desk(), Desk(), Desk()
        one.say("rule ab ba")
        self.assert_refused(NoRule, other, "mixes")
        other.say("rule ab a")
        one.say("start a")
        self.assert_refused(NoStart, other, "letter 0")
        other.say("start a")
        for again in range(3):
            self.assert_says(one, "stretch 0 6", "abbaba")
            self.assert_says(other, "stretch 0 6", "abaaba")
            self.assert_refused(NoRule, bare, "letter 0")
        one.say("rule aa")
        self.assert_says(other, "stretch 0 6", "abaaba")
        self.assert_refused(NoStart, one, "letter 0")

    def test_the_same_is_answered_again(self):
        desk = desk_with(("ab", "ba"), "a")
        before = [answer_or_refusal(desk, row) for row in ASKS_OF_WORD + ASKS_OF_RULE]
        for row in (
            "rule aa", "rule", "start a", "letter 5", "rule ab a", "start a", "pieces 7", "rule ab ba", "start a",
        ):
            answer_or_refusal(desk, row)
        self.assertEqual([answer_or_refusal(desk, row) for row in ASKS_OF_WORD + ASKS_OF_RULE], before)


class TestAgainstThePlainDesk(DeskTest):
    def rows(self, seed, many):
        scattered = random.Random(seed)
        rules = growing(TWO_LETTERS + THREE_LETTERS + FOUR_LETTERS)
        texts = ["rule " + written_rule(rule) for rule, start in rules]
        known = [ASKS_OF_WORD, ASKS_OF_WORD, ASKS_OF_RULE, STARTS, [row for row, wanted in REPEATS], texts]
        made = []
        for turn in range(many):
            if turn % 20 == 0:
                rule, start = scattered.choice(rules)
                made.extend(["rule " + written_rule(rule), "start " + start])
            row = scattered.choice(scattered.choice(known))
            for change in range(scattered.choice([0, 0, 0, 1, 1, 2])):
                place = scattered.randrange(len(row) + 1)
                sign = scattered.choice("aabbccdde001129 \t\n-+.ARrl")
                row = row[:place] + scattered.choice(["", sign]) + row[place + scattered.randrange(2):]
            made.append(row)
        return made

    def test_many_rows(self):
        met = {}
        for seed in range(40):
            desk, plain = Desk(), PlainDesk()
            for row in self.rows(seed, 150):
                told = answer_or_refusal(desk, row)
                self.assertEqual(told, answer_or_refusal(plain, row), repr(row))
                self.assertEqual(is_row_plainly(row), told != (NoRow, None), repr(row))
                kind = told if isinstance(told, tuple) else "answered"
                met[kind] = met.get(kind, 0) + 1
        self.assertGreater(met["answered"], 1000)
        for refusal in (NoRow, NoRule, NoStart, NoPiece, NotMixed, NoShares):
            self.assertGreater(met[(refusal, None)], 10, met)


class TestGoodTime(DeskTest):
    def test_the_bounds(self):
        began = time.perf_counter()
        for rule in (("ab", "ba"), JUST_300, OVER_300, ("a" * 11 + "b", "b" * 11 + "c", "c" * 11 + "a"), ("ab", "b")):
            desk = desk_with(rule, "a")
            for row in (
                "letter " + NINES, "stretch " + NINES + " 200", "counts " + NINES, "pieces 20", "pieces 12",
                "again " + endless_word(rule, "a", 12), "again " + endless_word(rule, "a", 10), "keeps", "shares",
                "repeat " + endless_word(("abc", "ac", "b"), "a", 300) + " 2 1 from",
                "repeat " + endless_word(("ab", "ba"), "a", 300) + " 2 1 above", "letter " + "9" * 19000,
            ):
                answer_or_refusal(desk, row)
        self.assert_refused(TooGreat, desk_with(LOOKED_LONG), "keeps", 800)
        self.assertLess(time.perf_counter() - began, 30)


if __name__ == "__main__":
    unittest.main()
