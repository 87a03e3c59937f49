"""Pieces: all words of a length that stand in an endless word, each with its first place."""

from neveragain.counts import added, counts, counts_behind
from neveragain.errors import TooGreat
from neveragain.places import stretch_at
from neveragain.rules import put

MOST_PIECES = 300


def pieces(rule, start, length):
    ahead = counts_ahead(rule, start, length)
    return sorted([(piece, sum(ahead[piece])) for piece in ahead])


def counts_ahead(rule, start, length):
    # Counts and not places alone: only they tell where the image of a piece stands.
    first = stretch_at(rule, start, 0, length)
    found = [first]
    ahead = {first: [0] * len(rule)}
    done = 0
    # The images of pieces in their order stand in that order too. So a piece that is new
    # here is met at its first place, and behind all that were met before it.
    while done < len(found):
        piece = found[done]
        word = put(rule, piece[:1])
        base = counts_behind(rule, ahead[piece], 1)
        for place, met in enumerate(pieces_of_image(rule, piece)):
            if met not in ahead:
                if len(found) == MOST_PIECES:
                    raise TooGreat(MOST_PIECES)
                found.append(met)
                ahead[met] = added(base, counts(word[:place], len(rule)))
        done = done + 1
    return ahead


def pieces_of_image(rule, piece):
    # Only those that begin in the image of its first sign: the others begin in images of
    # signs that begin pieces of their own.
    made = put(rule, piece)
    return [made[place:place + len(piece)] for place in range(len(put(rule, piece[:1])))]
