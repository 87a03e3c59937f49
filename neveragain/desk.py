"""Desk: keeps a rule and a start, and answers rows of text that ask of them."""

from neveragain.again import distance, mixes
from neveragain.errors import NoRow, NoRule, NoStart
from neveragain.keeping import keeps
from neveragain.pieces import pieces
from neveragain.places import counts_to, grows, letter_at, stretch_at
from neveragain.repeats import repeat_in
from neveragain.rules import read_rule
from neveragain.shares import shares
from neveragain.words import is_word

RULE_AHEAD = "rule "
FIGURES = "0123456789"
MOST_FIGURES = 30
MOST_SIGNS_TOLD = 200
MOST_LENGTH = 20
MOST_SIGNS_OF_PIECE = 12
MOST_SIGNS_OF_WORD = 300
MOST_TOP = 100
ALL_LETTERS = 4


class Desk:
    def __init__(self):
        self.rule = None
        self.start = None

    def say(self, row):
        words = words_of_row(row)
        if words[0] == "rule":
            return self.keep_rule(words[1])
        if words[0] == "repeat":
            return told_repeat(words)
        if self.rule is None:
            raise NoRule("no rule is kept")
        if words[0] == "start":
            return self.keep_start(words[1])
        if len(words) == 1:
            return told_of_rule(self.rule, words[0])
        if self.start is None:
            raise NoStart("no start is kept")
        return told_of_endless_word(self.rule, self.start, words)

    def keep_rule(self, text):
        # Read first: a text that writes no rule leaves what is kept as it is.
        self.rule = read_rule(text)
        self.start = None
        return "ok"

    def keep_start(self, letter):
        if not grows(self.rule, letter):
            raise NoStart("the rule doesn't grow from this letter")
        self.start = letter
        return "ok"


def words_of_row(row):
    if not isinstance(row, str):
        raise NoRow("a row is a text")
    # Whatever stands behind the blank is the rule's text, further blanks too.
    if row.startswith(RULE_AHEAD):
        return ["rule", row[len(RULE_AHEAD):]]
    words = row.split(" ")
    if not is_row(words[0], words[1:]):
        raise NoRow("this is no row")
    return words


def is_row(name, rest):
    if name in ("mixes", "keeps", "shares"):
        return len(rest) == 0
    if name == "stretch":
        return len(rest) == 2 and is_number(rest[0]) and is_within(rest[1], MOST_SIGNS_TOLD)
    if name == "repeat":
        return len(rest) == 4 and is_word_up_to(rest[0], MOST_SIGNS_OF_WORD) and is_limit(rest[1:])
    if len(rest) != 1:
        return False
    if name == "start":
        return is_word_up_to(rest[0], 1)
    if name in ("letter", "counts"):
        return is_number(rest[0])
    if name == "pieces":
        return is_within(rest[0], MOST_LENGTH)
    return name == "again" and is_word_up_to(rest[0], MOST_SIGNS_OF_PIECE)


def is_word_up_to(text, most):
    return 1 <= len(text) <= most and is_word(text, ALL_LETTERS)


def is_number(text):
    if text == "0":
        return True
    if len(text) < 1 or len(text) > MOST_FIGURES or text.startswith("0"):
        return False
    # Not isdigit, which takes figures of other scripts too.
    return all([sign in FIGURES for sign in text])


def is_within(text, most):
    return is_number(text) and 1 <= int(text) <= most


def is_limit(words):
    if not is_within(words[0], MOST_TOP) or not is_within(words[1], MOST_TOP):
        return False
    return int(words[1]) < int(words[0]) and words[2] in ("from", "above")


def told_repeat(words):
    limit = (int(words[2]), int(words[3]), words[4] == "above")
    repeat = repeat_in(words[1], limit)
    if repeat is None:
        return "none"
    return in_a_row(repeat)


def told_of_rule(rule, name):
    if name == "mixes":
        return "yes" if mixes(rule) else "no"
    if name == "shares":
        return " ".join([f"{top}/{bottom}" for top, bottom in shares(rule)])
    told = keeps(rule)
    if told[0] == "keeps":
        return in_a_row(["keeps", len(told[1])])
    return in_a_row(["breaks", told[1]] + list(told[2]))


def told_of_endless_word(rule, start, words):
    if words[0] == "again":
        return in_a_row(distance(rule, start, words[1]))
    number = int(words[1])
    if words[0] == "letter":
        return letter_at(rule, start, number)
    if words[0] == "stretch":
        return stretch_at(rule, start, number, int(words[2]))
    if words[0] == "counts":
        return in_a_row(counts_to(rule, start, number))
    return ", ".join([f"{piece} {place}" for piece, place in pieces(rule, start, number)])


def in_a_row(told):
    return " ".join([str(each) for each in told])
