"""Places: the signs of an endless word, and the counts ahead of them, without writing it."""

from neveragain.counts import added, counts, counts_behind, sizes, sizes_once, table
from neveragain.errors import NoStart, TooGreat
from neveragain.rules import put, words_by_letter
from neveragain.words import letters

MOST_TURNS = 400


def grows(rule, start):
    word = words_by_letter(rule).get(start, "")
    return len(word) > 1 and word.startswith(start)


def figures(rule, start, n):
    rows = sizes_until(rule, start, n)
    word_for = words_by_letter(rule)
    pairs = []
    letter = start
    left = n
    for row in reversed(rows[:-1]):
        size_of = dict(zip(letters(len(rule)), row))
        word = word_for[letter]
        step = 0
        while size_of[word[step]] <= left:
            left = left - size_of[word[step]]
            step = step + 1
        letter = word[step]
        pairs.append((step, letter))
    return pairs


def letter_at(rule, start, n):
    pairs = figures(rule, start, n)
    if len(pairs) == 0:
        return start
    return pairs[-1][1]


def stretch_at(rule, start, n, many):
    last = figures(rule, start, n + many - 1)
    steps = [step for step, letter in figures(rule, start, n)]
    # The last place may need more turns than the first one. The start's word begins with
    # the start, so as many steps 0 ahead lead to the first place all the same.
    ahead = [0] * (len(last) - len(steps))
    window = start
    for step in ahead + steps:
        # No sign's word is empty, so what lies behind so many signs is never needed.
        window = put(rule, window)[step:][:many]
    return window[:many]


def counts_to(rule, start, n):
    word_for = words_by_letter(rule)
    made = [0] * len(rule)
    word = word_for.get(start, "")
    for step, letter in figures(rule, start, n):
        # All that stood ahead so far is turned along, once for each pair.
        made = added(counts_behind(rule, made, 1), counts(word[:step], len(rule)))
        word = word_for[letter]
    return made


def sizes_until(rule, start, n):
    # All sizes on the way, since each pair of the figures asks those behind one turn less.
    if not grows(rule, start):
        raise NoStart("the rule doesn't grow from this letter")
    rows = table(rule)
    at = letters(len(rule)).index(start)
    made = [sizes(rule, 0)]
    while made[-1][at] <= n:
        if len(made) > MOST_TURNS:
            raise TooGreat(MOST_TURNS)
        made.append(sizes_once(rows, made[-1]))
    return made
