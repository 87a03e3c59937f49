"""Repeats: the stretches of a word that come back within it, and how far they go."""


def repeat_in(word, limit):
    for end in range(1, len(word) + 1):
        repeat = repeat_at_end(word[:end], limit)
        if repeat is not None:
            return repeat
    return None


def repeat_at_end(word, limit):
    # Only stretches that end with the word: those are all there are where it is free but for
    # its last sign.
    for period in range(1, len(word)):
        length = least_length(period, limit)
        # A greater period asks for no shorter stretch.
        if length > len(word):
            return None
        stretch = word[len(word) - length:]
        if stretch[period:] == stretch[:length - period]:
            return (len(word) - length, length, period)
    return None


def greatest_share(word):
    # A stretch by its own length as a period has the share 1; the first sign is the least such one.
    best = (1, 1, 0)
    for period in range(1, len(word)):
        found = longest_stretch(word, period)
        # The share is length over period; both sides are multiplied to stay with whole numbers.
        if found[0] * best[1] > best[0] * found[1]:
            best = found
    return best


def least_length(period, limit):
    # A limit's top is greater than its bottom, so this is always more than the period.
    wanted = limit[0] * period
    if limit[2]:
        return wanted // limit[1] + 1
    return (wanted + limit[1] - 1) // limit[1]


def longest_stretch(word, period):
    best = (period, period, 0)
    alike = 0
    for last in range(period, len(word)):
        alike = alike + 1 if word[last] == word[last - period] else 0
        length = period + alike
        if length > best[0]:
            best = (length, period, last + 1 - length)
    return best
