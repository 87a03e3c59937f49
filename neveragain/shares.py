"""Shares: the part of each letter in the words of a rule that mixes, all of one size."""

from neveragain.again import mixes
from neveragain.counts import table
from neveragain.errors import NoShares


def shares(rule):
    if not of_one_size(rule) or not mixes(rule):
        raise NoShares("the rule doesn't mix, or has words of one sign or of unlike sizes")
    # Each row of the lacks has the sum 0. So the rows of their adjugate are all alike, and
    # any of them is the row of the shares but for a factor; its members stand on the diagonal.
    lacks = lacks_of(rule)
    weights = [determinant(without(lacks, place)) for place in range(len(rule))]
    whole = sum(weights)
    return [in_lowest_terms(weight, whole) for weight in weights]


def of_one_size(rule):
    size = len(rule[0])
    return size > 1 and all([len(word) == size for word in rule])


def lacks_of(rule):
    # For each letter, how many signs its word lacks to be of that letter alone, and, less
    # than 0, how many of each other letter stand there instead.
    rows = []
    for place, row in enumerate(table(rule)):
        lack = [-count for count in row]
        lack[place] = lack[place] + len(rule[place])
        rows.append(lack)
    return rows


def without(rows, place):
    others = rows[:place] + rows[place + 1:]
    return [row[:place] + row[place + 1:] for row in others]


def determinant(rows):
    if len(rows) == 0:
        return 1
    made = 0
    sign = 1
    for place, number in enumerate(rows[0]):
        rest = [row[:place] + row[place + 1:] for row in rows[1:]]
        made = made + sign * number * determinant(rest)
        sign = -sign
    return made


def in_lowest_terms(top, bottom):
    divisor = greatest_divisor(top, bottom)
    return (top // divisor, bottom // divisor)


def greatest_divisor(one, other):
    while other > 0:
        rest = one % other
        one = other
        other = rest
    return one
