"""Counts: how often each letter stands in a word, and what turns make of that."""

from neveragain.words import letters


def counts(word, many):
    return [word.count(letter) for letter in letters(many)]


def table(rule):
    return [counts(word, len(rule)) for word in rule]


def counts_behind(rule, numbers, times):
    rows = table(rule)
    made = list(numbers)
    for turn in range(times):
        made = counts_once(rows, made)
    return made


def sizes(rule, times):
    rows = table(rule)
    made = [1] * len(rule)
    for turn in range(times):
        made = sizes_once(rows, made)
    return made


def counts_once(rows, numbers):
    made = [0] * len(rows)
    for number, row in zip(numbers, rows):
        made = added(made, [number * count for count in row])
    return made


def sizes_once(rows, before):
    return [signs_behind(row, before) for row in rows]


def signs_behind(row, before):
    return sum([count * size for count, size in zip(row, before)])


def added(one, other):
    return [left + right for left, right in zip(one, other)]
