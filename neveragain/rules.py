"""Rules: what they put for a word, and the texts that write them."""

from neveragain.errors import NoRule, TooGreat
from neveragain.words import is_word, letters

MOST_LETTERS = 4
MOST_SIGNS_IN_RULE = 100
MOST_SIGNS_IN_TEXT = 12
MOST_SIGNS_OF_IMAGE = 20000


def is_rule(thing):
    return is_rule_up_to(thing, MOST_SIGNS_IN_RULE)


def image(rule, word):
    return image_up_to(rule, word, MOST_SIGNS_OF_IMAGE)


def turned(rule, word, times):
    # No turn makes a word shorter, so the first image that is too great settles it:
    # this stays short even where the last turn would give an immense word.
    made = word
    for turn in range(times):
        made = image(rule, made)
    return made


def behind(first, later):
    return tuple([image_up_to(later, word, MOST_SIGNS_IN_RULE) for word in first])


def read_rule(text):
    if not isinstance(text, str):
        raise NoRule("a rule is written by a text")
    # A blank too many leaves an empty word here, which no rule has.
    rule = tuple(text.split(" "))
    if not is_rule_up_to(rule, MOST_SIGNS_IN_TEXT):
        raise NoRule("this text writes no rule")
    return rule


def written_rule(rule):
    return " ".join(rule)


def is_rule_up_to(thing, most):
    if not isinstance(thing, tuple):
        return False
    many = len(thing)
    if many < 1 or many > MOST_LETTERS:
        return False
    return all([is_word(word, many) and 1 <= len(word) <= most for word in thing])


def image_up_to(rule, word, most):
    # The size is told by counting, so that nothing too great is ever made.
    if image_size(rule, word) > most:
        raise TooGreat(most)
    return put(rule, word)


def put(rule, word):
    word_for = words_by_letter(rule)
    return "".join([word_for[sign] for sign in word])


def words_by_letter(rule):
    return dict(zip(letters(len(rule)), rule))


def image_size(rule, word):
    known = letters(len(rule))
    return sum([word.count(known[k]) * len(rule[k]) for k in range(len(rule))])
