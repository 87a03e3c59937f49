"""Parted cases: the words free of a limit up to a length, with the cases that fail."""

from neveragain.errors import TooGreat
from neveragain.repeats import repeat_at_end
from neveragain.words import letters

MOST_WORDS_PARTED = 2000


def parted(many, limit, length):
    cases = []
    ahead = [""]
    looked_at = 0
    while len(ahead) > 0:
        if looked_at == MOST_WORDS_PARTED:
            raise TooGreat(MOST_WORDS_PARTED)
        looked_at = looked_at + 1
        word = ahead.pop()
        # But for its last sign it is free, so a repeat ends with it.
        repeat = repeat_at_end(word, limit)
        if repeat is not None:
            cases.append((word, repeat))
        elif len(word) == length:
            return ("word", word, cases)
        else:
            # What is put last is taken first: so a goes last here to be looked at first.
            ahead.extend([word + letter for letter in reversed(letters(many))])
    return ("none", cases)
