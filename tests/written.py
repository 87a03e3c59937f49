"""Words written out by putting again and again: what the tests hold the answers against."""

import itertools


def put_once(rule, word):
    return "".join(rule["abcd".index(sign)] for sign in word)


def put_often(rule, word, times):
    for _ in range(times):
        word = put_once(rule, word)
    return word


def endless_word(rule, start, many):
    """The first so many signs: the image of a beginning is a beginning too, also where it is cut."""
    word = start
    while len(word) < many:
        word = put_once(rule, word)[:many]
    return word


def grows_plainly(rule, start):
    place = "abcd".index(start)
    return place < len(rule) and len(rule[place]) > 1 and rule[place][0] == start


def first_places(word, length):
    found = {}
    for place in range(len(word) - length + 1):
        found.setdefault(word[place:place + length], place)
    return found


def words_up_to(many, most):
    for size in range(1, most + 1):
        for signs in itertools.product("abcd"[:many], repeat=size):
            yield "".join(signs)


def rules_of(many, words):
    return list(itertools.product(words, repeat=many))


TWO_LETTERS = rules_of(2, list(words_up_to(2, 3)))
THREE_LETTERS = rules_of(3, ["a", "c", "ab", "bc", "cab", "bbc"])
FOUR_LETTERS = [
    ("abcd", "d", "cc", "ba"),
    ("ad", "bc", "cb", "da"),
    ("abd", "bad", "cdc", "d"),
    ("db", "ba", "dc", "dabc"),
    ("ab", "c", "d", "a"),
    ("ab", "bc", "cd", "d"),
    ("abdc", "cb", "ccdd", "dcba"),
    ("a", "b", "c", "d"),
]
ONE_LETTER = [("a",), ("aa",), ("aaa",), ("a" * 100,)]
RULES = ONE_LETTER + TWO_LETTERS + THREE_LETTERS + FOUR_LETTERS


def growing(rules):
    return [(rule, start) for rule in rules for start in "abcd" if grows_plainly(rule, start)]
