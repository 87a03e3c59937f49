import itertools
import time
import unittest

from neveragain.again import distance, mixes
from neveragain.errors import NoPiece, NoStart, NotMixed, TooGreat, WordError
from neveragain.pieces import pieces
from neveragain.places import stretch_at
from written import (
    RULES,
    endless_word,
    first_places,
    growing,
    grows_plainly,
    mixes_plainly,
    places_of,
    put_often,
    put_once,
    widest_gap,
    words_of,
)

DOUBLES = ("ab", "ba")
GOLDEN = ("ab", "a")
SLOW = ("ab", "c", "d", "a")
THREES = ("abc", "ac", "b")
RUNS = tuple(letter * 9 + then for letter, then in zip("abcd", "bcda"))
LONGEST = ("a" * 99 + "b", "b" * 99 + "c", "c" * 99 + "d", "d" * 99 + "a")

# A rule that mixes, and how many pieces there are of a length.
MANY_PIECES = [
    (300, 12, (
        "accbacaadcaacacaccaaaaacdaaadbcdda", "dacacbdcadbbaaadcdabccddcddadacddbbadddbcbdbbbabddd",
        "bcddccccbccabbccdddcadddabaabbdadacabdcab", "cdddbabcbcdaacdbbaddcbaabdaaaacbaddaabbacabccd",
    )),
    (301, 12, (
        "abbbdcdbabbccbbccdbbdacaac", "caccabbbbcdaabbcbcdaadccbbaccddadaadbdabbddcbdcdaddb",
        "ddabcbddabccdbdaaddcbbaabadcbddadbbdaca", "bdadddaaaddabcdbabdddbabdabadbcdacbbcdbcbddcbcbcaadd",
    )),
    (300, 13, (
        "abbbaddddbdacddbbaabcbccc", "ddacbaacaadddabaaacdacbdaccdbdcabbdcabd", "dbdabcbddacbaaacddccccba", "bdc",
    )),
    (301, 13, (
        "acbddbabcdbaddbabbbbadaaabcbaadbcbcb", "bcdcbbbbbcdcbdabaccacdaccaabdcabbdddddbbabbcbdd",
        "dbaababbbcdacdbaabbbdbbcbabddda", "cadcbaddadbccbbdcdbdcccbdddbddccdbaccbbddcc",
    )),
]
JUST_300, JUST_301, NEXT_300, NEXT_301 = [rule for many, length, rule in MANY_PIECES]


def scattered_word(seed, size, many):
    signs = []
    for _ in range(size):
        seed = (seed * 1103515245 + 12345) % 2 ** 31
        signs.append("abcd"[seed // 2 ** 16 % many])
    return "".join(signs)


def scattered_rule(many):
    return tuple(letter + scattered_word(ord(letter), 99, many) for letter in "abcd"[:many])


RICH = scattered_rule(4)
RICH_OF_THREE = scattered_rule(3)


class AgainTest(unittest.TestCase):
    def assert_too_great(self, rule, start, piece):
        with self.assertRaises(TooGreat, msg=(rule, start, piece)) as taken:
            distance(rule, start, piece)
        self.assertEqual(taken.exception.most, 300)

    def assert_as_written(self, rule, start, piece, word):
        """Tells whether the told place and the next one lie in the word that was written."""
        told = distance(rule, start, piece)
        gap, place = told
        where = (rule, start, piece, told)
        if place + gap + len(piece) <= len(word):
            self.assertEqual(told, widest_gap(word, piece), where)
            return True
        self.assertLess(widest_gap(word, piece)[0], gap, where)
        self.assertEqual(stretch_at(rule, start, place, len(piece)), piece, where)
        self.assertEqual(stretch_at(rule, start, place + gap, len(piece)), piece, where)
        if gap < 2000 and gap > 1:
            between = stretch_at(rule, start, place + 1, gap + len(piece) - 2)
            self.assertNotIn(piece, between, where)
        return False


class TestMixes(unittest.TestCase):
    def test_told_ones(self):
        for rule, wanted in [
            (("a",), True), (("aa",), True), (("a" * 100,), True),
            (DOUBLES, True), (GOLDEN, True), (("b", "ab"), True), (("ba", "a"), True),
            (("a", "b"), False), (("b", "a"), False), (("bb", "aa"), False), (("ab", "b"), False),
            (("a", "ab"), False), (("a", "a"), False), (("b", "b"), False),
            (("b", "c", "a"), False), (("ab", "c", "a"), True), (("b", "ca", "b"), False),
            (SLOW, True), (("b", "c", "d", "a"), False), (("bd", "ac", "bd", "ac"), False),
            (RUNS, True), (LONGEST, True), (LONGEST[:3] + ("d",), False), (RICH, True),
        ]:
            with self.subTest(rule=rule):
                self.assertIs(mixes(rule), wanted)

    def test_the_rule_that_needs_most_turns(self):
        rule = ("b", "c", "d", "ab")
        for letter in "bcd":
            self.assertEqual(set(put_often(rule, letter, 9)), set("abcd"))
        self.assertEqual(set(put_often(rule, "a", 9)), set("bcd"))
        for letter in "abcd":
            self.assertEqual(set(put_often(rule, letter, 10)), set("abcd"))
        self.assertIs(mixes(rule), True)
        for order in itertools.permutations("abcd"):
            renamed = dict(zip("abcd", order))
            words = {
                renamed[letter]: "".join(renamed[sign] for sign in word)
                for letter, word in zip("abcd", rule)
            }
            self.assertIs(mixes(tuple(words[letter] for letter in "abcd")), True)

    def test_against_words_written_out(self):
        for rule in RULES:
            if len(rule) > 1:
                whole = [
                    all(set(put_often(rule, letter, times)) == set("abcd"[:len(rule)])
                        for letter in "abcd"[:len(rule)])
                    for times in range(6)
                ]
                if any(whole):
                    self.assertIs(mixes(rule), True, rule)
                self.assertIs(mixes(rule), mixes_plainly(rule), rule)

    def test_all_choices_of_letters(self):
        for many, step in [(1, 1), (2, 1), (3, 1), (4, 13)]:
            held = ["".join(some) for size in range(1, many + 1)
                    for some in itertools.combinations("abcd"[:many], size)]
            for rule in itertools.islice(itertools.product(held, repeat=many), 0, None, step):
                self.assertIs(mixes(rule), mixes_plainly(rule), rule)


class TestToldDistances(AgainTest):
    def test_told_ones(self):
        for rule, start, piece, wanted in [
            (("aa",), "a", "a", (1, 0)),
            (("aa",), "a", "a" * 12, (1, 0)),
            (("a" * 100,), "a", "a" * 12, (1, 0)),
            (DOUBLES, "a", "a", (3, 0)),
            (DOUBLES, "a", "b", (3, 4)),
            (DOUBLES, "b", "b", (3, 0)),
            (DOUBLES, "b", "a", (3, 4)),
            (DOUBLES, "a", "aa", (8, 9)),
            (GOLDEN, "a", "a", (2, 0)),
            (GOLDEN, "a", "b", (3, 1)),
            (GOLDEN, "a", "aa", (5, 2)),
            (("a" * 99 + "b", "a"), "a", "b", (101, 9899)),
            (("a" * 99 + "b", "a"), "a", "a", (2, 98)),
        ]:
            with self.subTest(rule=rule, start=start, piece=piece):
                told = distance(rule, start, piece)
                self.assertEqual(told, wanted)
                self.assertIs(type(told), tuple)
                self.assertEqual([type(number) for number in told], [int, int])

    def test_a_rule_of_one_letter(self):
        for size in (2, 3, 7, 100):
            for length in range(1, 13):
                self.assertEqual(distance(("a" * size,), "a", "a" * length), (1, 0))


class TestAgainstWordsWrittenOut(AgainTest):
    def test_single_letters_and_short_pieces(self):
        seen = 0
        for rule, start in growing(RULES)[4:]:
            if mixes_plainly(rule):
                word = endless_word(rule, start, 3000)
                for length in (1, 2, 3):
                    for piece in sorted(first_places(word, length)):
                        seen += self.assert_as_written(rule, start, piece, word)
        self.assertGreater(seen, 2000)

    def test_longer_pieces(self):
        near = far = 0
        for rule, start in growing(RULES)[4::6]:
            if mixes_plainly(rule):
                word = endless_word(rule, start, 40000)
                for length in (4, 7, 12):
                    if len(first_places(word, length + 1)) > 300:
                        continue
                    for piece in sorted(first_places(word, length))[::6]:
                        if self.assert_as_written(rule, start, piece, word):
                            near += 1
                        else:
                            far += 1
        self.assertGreater(near, 250)
        self.assertLess(far, 20)

    def test_all_pieces_of_some_rules(self):
        for rule in (DOUBLES, GOLDEN, THREES, SLOW):
            word = endless_word(rule, "a", 20000)
            for length in range(1, 13):
                for piece in sorted(first_places(word, length)):
                    self.assertTrue(self.assert_as_written(rule, "a", piece, word))

    def test_it_stands_again_within_the_distance_of_each_place(self):
        for rule in (DOUBLES, GOLDEN, THREES, ("abb", "ba"), ("aab", "ca", "b")):
            word = endless_word(rule, "a", 5000)
            for length in (1, 3, 6):
                for piece, first in pieces(rule, "a", length):
                    gap, place = distance(rule, "a", piece)
                    found = places_of(word, piece)
                    self.assertEqual(found[0], first)
                    steps = [later - here for here, later in zip(found, found[1:])]
                    self.assertEqual(max(steps), gap)
                    self.assertEqual(found[steps.index(gap)], place)

    def test_a_letter_that_comes_back_late(self):
        word = endless_word(RUNS, "a", 1200000)
        for piece in ("a", "b", "c", "d", "aa", "dd", "cd", "ba", "ca", "abbb"):
            self.assert_as_written(RUNS, "a", piece, word)
        self.assertTrue(self.assert_as_written(RUNS, "a", "d", word))
        self.assertGreater(distance(RUNS, "a", "d")[0], 1000)

    def test_rules_with_three_hundred_pieces(self):
        word = endless_word(NEXT_300, "a", 400000)
        for piece in sorted(first_places(word, 12))[::40]:
            self.assert_as_written(NEXT_300, "a", piece, word)
        word = endless_word(JUST_300, "a", 400000)
        for piece in sorted(first_places(word, 11))[::40]:
            self.assert_as_written(JUST_300, "a", piece, word)

    def test_somewhat_longer_pieces_are_not_refused(self):
        word = endless_word(GOLDEN, "a", 20000)
        for length in (13, 15):
            for piece in sorted(first_places(word, length)):
                self.assertTrue(self.assert_as_written(GOLDEN, "a", piece, word))


class TestFarOut(AgainTest):
    def test_distances_that_nobody_writes_out(self):
        gap, place = distance(LONGEST, "a", "d")
        self.assertEqual((gap, place), (1010101, 999999989898))
        self.assertEqual(stretch_at(LONGEST, "a", place, 1), "d")
        self.assertEqual(stretch_at(LONGEST, "a", place + gap, 1), "d")
        for from_there in range(place + 1, place + gap, 2000):
            many = min(2000, place + gap - from_there)
            self.assertNotIn("d", stretch_at(LONGEST, "a", from_there, many))

    def test_scaled_down_it_is_as_written(self):
        # The same rule with 3 to 6 signs in a row in the place of 99.
        for many in (3, 4, 5, 6):
            rule = tuple(letter * many + then for letter, then in zip("abcd", "bcda"))
            word = endless_word(rule, "a", 300000)
            for piece in ("a", "b", "c", "d"):
                self.assertTrue(self.assert_as_written(rule, "a", piece, word))
            size = many + 1
            self.assertEqual(
                distance(rule, "a", "d"), (size ** 3 + size ** 2 + size + 1, size ** 6 - size ** 2 - size - 2)
            )
        self.assertEqual(distance(LONGEST, "a", "d"), (100 ** 3 + 10101, 100 ** 6 - 10102))

    def test_long_pieces(self):
        for piece, first in pieces(LONGEST, "a", 12)[::25]:
            gap, place = distance(LONGEST, "a", piece)
            self.assertLessEqual(first, place)
            self.assertEqual(stretch_at(LONGEST, "a", place, 12), piece)
            self.assertEqual(stretch_at(LONGEST, "a", place + gap, 12), piece)


class TestRefusals(AgainTest):
    def assert_refused(self, refusal, rule, start, piece):
        with self.assertRaises(WordError, msg=(rule, start, piece)) as taken:
            distance(rule, start, piece)
        self.assertIs(type(taken.exception), refusal, (rule, start, piece))

    def test_the_told_counts_of_pieces(self):
        for many, length, rule in MANY_PIECES:
            self.assertTrue(mixes_plainly(rule))
            self.assertEqual(len(first_places(endless_word(rule, "a", 300000), length)), many)

    def test_no_start(self):
        for rule in RULES:
            for start in "abcd":
                if not grows_plainly(rule, start):
                    self.assert_refused(NoStart, rule, start, "a")

    def test_no_start_goes_ahead_of_all_else(self):
        turned_round = RICH[1:] + RICH[:1]
        for piece in ("a", "d", "abcdab", "dddddddddddd"):
            self.assert_refused(NoStart, ("a", "b"), "a", piece)
            self.assert_refused(NoStart, ("ab", "b"), "b", piece)
            self.assert_refused(NoStart, ("ab", "b"), "c", piece)
            self.assert_refused(NoStart, DOUBLES, "c", piece)
            self.assert_refused(NoStart, turned_round, "a", piece)
            self.assert_refused(NoStart, RICH[:3] + ("d",), "d", piece)

    def test_not_mixed(self):
        for rule, start in growing(RULES):
            if not mixes_plainly(rule):
                for piece in ("a", "ab", "dd"):
                    self.assert_refused(NotMixed, rule, start, piece)

    def test_not_mixed_goes_ahead_of_too_many_pieces_and_of_no_piece(self):
        rule = RICH[:3] + ("d" * 100,)
        self.assertGreater(len(first_places(endless_word(rule, "a", 20000), 6)), 300)
        for piece in ("a", "abcdab", "d" * 12):
            self.assert_refused(NotMixed, rule, "a", piece)
        self.assert_refused(NotMixed, ("ab", "b"), "a", "aa")
        self.assert_refused(NotMixed, ("ab", "b"), "a", "c")

    def test_too_many_pieces_of_its_length(self):
        standing = endless_word(JUST_301, "a", 12)
        self.assert_too_great(JUST_301, "a", standing)
        for length in (6, 9, 12):
            self.assert_too_great(RICH, "a", endless_word(RICH, "a", length))

    def test_too_many_pieces_go_ahead_of_no_piece(self):
        for piece in ("a" * 12, "abababababab", "d" * 12):
            self.assertNotIn(piece, first_places(endless_word(JUST_301, "a", 300000), 12))
            self.assert_too_great(JUST_301, "a", piece)
        self.assert_too_great(RICH, "a", "d" * 12)
        self.assert_too_great(RICH_OF_THREE, "a", "d" * 12)
        self.assert_too_great(RICH_OF_THREE, "a", "ddddddd")

    def test_no_piece(self):
        for rule, start in [(DOUBLES, "a"), (GOLDEN, "a"), (THREES, "a"), (("aa",), "a"), (SLOW, "a")]:
            word = endless_word(rule, start, 20000)
            for length in range(1, 5):
                there = first_places(word, length)
                for piece in words_of(4, length):
                    if piece not in there:
                        self.assert_refused(NoPiece, rule, start, piece)
                    else:
                        self.assertEqual(distance(rule, start, piece), widest_gap(word, piece))

    def test_no_piece_of_twelve_signs(self):
        for rule in (DOUBLES, GOLDEN, THREES, JUST_300, NEXT_300, NEXT_301):
            for piece in ("a" * 12, "d" * 12, "cd" * 6):
                self.assert_refused(NoPiece, rule, "a", piece)

    def test_no_piece_goes_ahead_of_too_many_of_one_sign_more(self):
        self.assert_refused(NoPiece, NEXT_301, "a", "a" * 12)
        self.assert_refused(NoPiece, JUST_300, "a", "a" * 12)
        for rule, length in [(RICH, 4), (RICH_OF_THREE, 6)]:
            there = first_places(endless_word(rule, "a", 20000), length)
            for piece in sorted(set(words_of(4, length)) - set(there))[::97]:
                self.assert_refused(NoPiece, rule, "a", piece)
            self.assertEqual(len(pieces(rule, "a", length)), len(there))
            with self.assertRaises(TooGreat):
                pieces(rule, "a", length + 1)

    def test_too_many_pieces_of_one_sign_more(self):
        self.assert_too_great(NEXT_301, "a", endless_word(NEXT_301, "a", 12))
        self.assert_too_great(JUST_300, "a", endless_word(JUST_300, "a", 12))
        self.assert_too_great(JUST_301, "a", endless_word(JUST_301, "a", 11))
        self.assert_too_great(RICH, "a", endless_word(RICH, "a", 4))
        self.assert_too_great(RICH_OF_THREE, "a", endless_word(RICH_OF_THREE, "a", 6))

    def test_just_three_hundred_of_one_sign_more(self):
        for rule, length in [(NEXT_300, 12), (JUST_300, 11)]:
            piece = endless_word(rule, "a", length)
            gap, place = distance(rule, "a", piece)
            self.assertEqual(stretch_at(rule, "a", place, length), piece)
            self.assertEqual(stretch_at(rule, "a", place + gap, length), piece)


class TestAskedAgain(AgainTest):
    def test_the_same_answers_behind_refusals_and_other_askings(self):
        def answers():
            return [
                distance(DOUBLES, "a", "abba"), distance(GOLDEN, "a", "b"),
                distance(LONGEST, "a", "d"), mixes(SLOW), mixes(("ab", "b")),
            ]

        before = answers()
        for rule, start, piece in [
            (DOUBLES, "c", "a"), (("ab", "b"), "a", "a"), (RICH, "a", "d" * 12),
            (DOUBLES, "a", "aaa"), (NEXT_301, "a", endless_word(NEXT_301, "a", 12)),
        ]:
            for again in range(2):
                with self.assertRaises(WordError):
                    distance(rule, start, piece)
        distance(DOUBLES, "b", "abba")
        distance(GOLDEN, "a", "abaab")
        self.assertEqual(answers(), before)


class TestGoodTime(unittest.TestCase):
    def test_many_pieces_and_great_distances(self):
        began = time.perf_counter()
        for rule in (LONGEST, NEXT_300, SLOW):
            for piece, place in pieces(rule, "a", 12)[::30]:
                distance(rule, "a", piece)
        for rule, piece in [(RICH, "d" * 12), (NEXT_301, endless_word(NEXT_301, "a", 12))]:
            with self.assertRaises(TooGreat):
                distance(rule, "a", piece)
        self.assertLess(time.perf_counter() - began, 20)


if __name__ == "__main__":
    unittest.main()
