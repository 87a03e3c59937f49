"""Again: whether a rule mixes, and how far a piece is at most from the next like it."""

from neveragain.counts import signs_behind, sizes
from neveragain.errors import NoPiece, NoStart, NotMixed
from neveragain.pieces import counts_ahead, pieces_of_image
from neveragain.places import grows
from neveragain.rules import put
from neveragain.words import letters

# A rule of n letters that mixes has all letters behind (n - 1) ** 2 + 1 turns at the latest, and
# behind each further turn. With four letters these are ten.
ENOUGH_TURNS = 10


class Sight:
    # Where a piece stands among so many places: at its first and its last one, if anywhere,
    # and, where it stands there again, its greatest gap, with the first place of such a gap.
    def __init__(self, size, first, last, gap, place):
        self.size = size
        self.first = first
        self.last = last
        self.gap = gap
        self.place = place


def mixes(rule):
    known = letters(len(rule))
    held = list(known)
    for turn in range(ENOUGH_TURNS):
        held = [letters_in(put(rule, word)) for word in held]
    return all([word == known for word in held])


def distance(rule, start, piece):
    if not grows(rule, start):
        raise NoStart("the rule doesn't grow from this letter")
    if not mixes(rule):
        raise NotMixed("the rule doesn't mix")
    alike = list(counts_ahead(rule, start, len(piece)))
    if piece not in alike:
        raise NoPiece("the piece doesn't stand in the endless word")
    ahead = counts_ahead(rule, start, len(piece) + 1)
    parts = dict([(other, pieces_of_image(rule, other)) for other in alike])
    sights = dict([(other, sight_of_one(other == piece)) for other in alike])
    turns = 0
    # Since the rule mixes, each piece comes to have the asked one in it. From then on a gap
    # reaches over two neighbours at most.
    while any([sights[other].first is None for other in alike]):
        sights = dict([(other, sight_turned(parts[other], sights)) for other in alike])
        turns = turns + 1
    return widest(ahead, sizes(rule, turns), sights)


def widest(ahead, size_of, sights):
    # Two neighbours make a piece of one sign more. These come in the order of their first
    # places, so the first one of the greatest gaps stays.
    best = (0, 0)
    for longer in ahead:
        both = joined([sights[longer[:-1]], sights[longer[1:]]])
        if both.gap > best[0]:
            best = (both.gap, signs_behind(ahead[longer], size_of) + both.place)
    return best


def sight_of_one(stands):
    if stands:
        return Sight(1, 0, 0, 0, 0)
    return Sight(1, None, None, 0, 0)


def sight_turned(parts, sights):
    return joined([sights[part] for part in parts])


def joined(sights):
    whole = Sight(0, None, None, 0, 0)
    for sight in sights:
        if sight.first is not None:
            if whole.first is None:
                whole.first = whole.size + sight.first
            else:
                widen(whole, whole.size + sight.first - whole.last, whole.last)
            widen(whole, sight.gap, whole.size + sight.place)
            whole.last = whole.size + sight.last
        whole.size = whole.size + sight.size
    return whole


def widen(sight, gap, place):
    # Gaps come in the order of their places, so the first one of the greatest stays.
    if gap > sight.gap:
        sight.gap = gap
        sight.place = place


def letters_in(word):
    return "".join(sorted(set(word)))
