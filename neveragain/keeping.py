"""Keeping: the words free of doubles, and whether a rule's images of them are free too."""

from neveragain.errors import TooGreat
from neveragain.repeats import repeat_in
from neveragain.rules import put
from neveragain.words import letters

DOUBLES = (2, 1, False)
MOST_FREE_WORDS = 300
MOST_SIGNS_KEPT = 12
MOST_LOOKED_AT = 800


def free_words(many, length):
    words = [""]
    for turn in range(length):
        words = one_sign_more(words, many)
        # Once there are so many of a length, there are as many of each greater one.
        if len(words) > MOST_FREE_WORDS:
            raise TooGreat(MOST_FREE_WORDS)
    return words


def looked_length(rule):
    longest = max([len(word) for word in rule])
    shortest = min([len(word) for word in rule])
    if longest > 4:
        return 3 + (longest - 4) // shortest
    return 3


def keeps(rule):
    if max([len(word) for word in rule]) > MOST_SIGNS_KEPT:
        raise TooGreat(MOST_SIGNS_KEPT)
    looked_at = []
    words = [""]
    for turn in range(looked_length(rule)):
        words = one_sign_more(words, len(rule))
        if len(looked_at) + len(words) > MOST_LOOKED_AT:
            raise TooGreat(MOST_LOOKED_AT)
        for word in words:
            found = double_in(put(rule, word))
            if found is not None:
                return ("breaks", word, found)
        looked_at.extend(words)
    return ("keeps", looked_at)


def one_sign_more(words, many):
    # A word free of doubles begins with one that is so too: from all of a length come all
    # of the next one, and sorted ones come out sorted.
    made = []
    for word in words:
        longer = [word + letter for letter in letters(many)]
        made.extend([grown for grown in longer if double_in(grown) is None])
    return made


def double_in(word):
    return repeat_in(word, DOUBLES)
