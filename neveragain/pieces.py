"""Pieces: all words of a length that stand in an endless word, each with its first place."""

from neveragain.counts import added, counts, counts_behind
from neveragain.errors import TooGreat
from neveragain.places import stretch_at
from neveragain.rules import put

MOST_PIECES = 300


def pieces(rule, start, length):
    ahead = counts_ahead(rule, start, length)
    return sorted([(piece, sum(ahead[piece])) for piece in ahead])


def counts_ahead(rule, start, length):
    # Counts and not places alone: only they tell where the image of a piece stands.
    first = stretch_at(rule, start, 0, length)
    found = [first]
    ahead = {first: [0] * len(rule)}
    done = 0
    # The images of pieces in their order stand in that order too. So a piece that is new
    # here is met at its first place, and behind all that were met before it.
    while done < len(found):
        piece = found[done]
        made = put(rule, piece)
        base = counts_behind(rule, ahead[piece], 1)
        for place in range(len(put(rule, piece[:1]))):
            met = made[place:place + length]
            if met not in ahead:
                if len(found) == MOST_PIECES:
                    raise TooGreat(MOST_PIECES)
                found.append(met)
                ahead[met] = added(base, counts(made[:place], len(rule)))
        done = done + 1
    return ahead
