"""Words written out by putting again and again: what the tests hold the answers against."""

import fractions
import itertools


def put_once(rule, word):
    return "".join(rule["abcd".index(sign)] for sign in word)


def put_often(rule, word, times):
    for _ in range(times):
        word = put_once(rule, word)
    return word


def endless_word(rule, start, many):
    """The first so many signs: the image of a beginning is a beginning too, also where it is cut."""
    word = start
    while len(word) < many:
        word = put_once(rule, word)[:many]
    return word


def grows_plainly(rule, start):
    place = "abcd".index(start)
    return place < len(rule) and len(rule[place]) > 1 and rule[place][0] == start


def first_places(word, length):
    found = {}
    for place in range(len(word) - length + 1):
        found.setdefault(word[place:place + length], place)
    return found


def words_up_to(many, most):
    for size in range(1, most + 1):
        for signs in itertools.product("abcd"[:many], repeat=size):
            yield "".join(signs)


def rules_of(many, words):
    return list(itertools.product(words, repeat=many))


TWO_LETTERS = rules_of(2, list(words_up_to(2, 3)))
THREE_LETTERS = rules_of(3, ["a", "c", "ab", "bc", "cab", "bbc"])
FOUR_LETTERS = [
    ("abcd", "d", "cc", "ba"),
    ("ad", "bc", "cb", "da"),
    ("abd", "bad", "cdc", "d"),
    ("db", "ba", "dc", "dabc"),
    ("ab", "c", "d", "a"),
    ("ab", "bc", "cd", "d"),
    ("abdc", "cb", "ccdd", "dcba"),
    ("a", "b", "c", "d"),
]
ONE_LETTER = [("a",), ("aa",), ("aaa",), ("a" * 100,)]
RULES = ONE_LETTER + TWO_LETTERS + THREE_LETTERS + FOUR_LETTERS


def growing(rules):
    return [(rule, start) for rule in rules for start in "abcd" if grows_plainly(rule, start)]


def words_of(many, size):
    return ["".join(signs) for signs in itertools.product("abcd"[:many], repeat=size)]


def places_of(word, piece):
    found = []
    place = word.find(piece)
    while place >= 0:
        found.append(place)
        place = word.find(piece, place + 1)
    return found


def widest_gap(word, piece):
    """The greatest gap between two next places of the piece, with the first place of such a gap."""
    found = places_of(word, piece)
    gaps = [(later - place, -place) for place, later in zip(found, found[1:])]
    gap, place = max(gaps, default=(0, 0))
    return (gap, -place)


def has_period(stretch, period):
    return all(stretch[k] == stretch[k + period] for k in range(len(stretch) - period))


def stretches_with_periods(word):
    """Each stretch with each of its periods: (end, period, length, place)."""
    return [
        (end, period, end - place, place)
        for end in range(1, len(word) + 1)
        for place in range(end)
        for period in range(1, end - place)
        if has_period(word[place:end], period)
    ]


def breaks_limit(length, period, limit):
    top, bottom, above = limit
    share = fractions.Fraction(length, period)
    told = fractions.Fraction(top, bottom)
    return share > told or (not above and share == told)


def first_repeat(stretches, limit):
    breaking = [each for each in stretches if breaks_limit(each[2], each[1], limit)]
    if not breaking:
        return None
    end, period, length, place = min(breaking)
    return (place, length, period)


def widest_share(stretches, word):
    """As told: the greatest share, of several the least period, of these what begins first."""
    own = [(end, end - place, end - place, place) for end in range(len(word) + 1) for place in range(end)]
    ranked = [
        (-fractions.Fraction(length, period), period, place, length)
        for end, period, length, place in stretches + own
    ]
    share, period, place, length = min(ranked)
    return (length, period, place)


def is_free(word):
    """Free of doubles: no stretch of it stands twice in a row."""
    return not any(
        word[place:place + half] == word[place + half:place + 2 * half]
        for half in range(1, len(word) // 2 + 1)
        for place in range(len(word) - 2 * half + 1)
    )


def mixes_plainly(rule):
    """By the letters that each letter's word has, turned more often than ever needed."""
    held = list("abcd"[:len(rule)])
    for _ in range(40):
        if all(len(letters) == len(rule) for letters in held):
            return True
        held = ["".join(sorted(set(put_once(rule, letters)))) for letters in held]
    return False


def turns_to(rule, start, place):
    """How many turns bring the letter to more signs than so many, by counting alone."""
    held = [int(letter == start) for letter in "abcd"[:len(rule)]]
    turns = 0
    while sum(held) <= place:
        held = [
            sum(many * word.count(letter) for many, word in zip(held, rule))
            for letter in "abcd"[:len(rule)]
        ]
        turns += 1
    return turns


def parted_plainly(many, limit, length, repeat_of):
    """As told, with how many words were looked at: the found word or None, the cases, how many."""
    cases = []
    looked_at = []

    def look(word):
        looked_at.append(word)
        repeat = repeat_of(word, limit)
        if repeat is not None:
            cases.append((word, repeat))
            return None
        if len(word) == length:
            return word
        for letter in "abcd"[:many]:
            found = look(word + letter)
            if found is not None:
                return found
        return None

    return (look(""), cases, len(looked_at))
