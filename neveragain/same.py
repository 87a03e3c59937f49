"""Same: whether the endless words of two rules are alike."""

from neveragain.errors import NoStart
from neveragain.places import grows, stretch_at
from neveragain.rules import put

SIGNS_COMPARED = 1000


def same(rule, other, start):
    # Both are asked first: a place too far out in the one word goes behind a start that
    # the other one lacks.
    if not grows(rule, start) or not grows(other, start):
        raise NoStart("one of the rules doesn't grow from this letter")
    one_word = stretch_at(rule, start, 0, SIGNS_COMPARED)
    other_word = stretch_at(other, start, 0, SIGNS_COMPARED)
    for place in range(SIGNS_COMPARED):
        if one_word[place] != other_word[place]:
            return ("unlike", place)
    if in_either_order(rule, other):
        return ("same",)
    return ("open",)


def in_either_order(rule, other):
    # Such rules make the same word: the image of the one's endless word by the other is again
    # its own image by the one, and there is no second such word from the same letter on.
    return [put(rule, word) for word in other] == [put(other, word) for word in rule]
