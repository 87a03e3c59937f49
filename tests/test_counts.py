import itertools
import unittest

from neveragain.counts import counts, counts_behind, sizes, table
from neveragain.rules import turned
from written import FOUR_LETTERS, ONE_LETTER, RULES, put_often

DOUBLES = ("ab", "ba")
GOLDEN = ("ab", "a")
LONGEST = ("abcd" * 25, "b" * 100, "cd" * 50, "a" * 99 + "d")


def golden_numbers(many):
    made = [1, 1]
    while len(made) < many:
        made.append(made[-1] + made[-2])
    return made


class TestCounts(unittest.TestCase):
    def test_told_counts(self):
        for word, many, wanted in [
            ("", 1, [0]),
            ("", 4, [0, 0, 0, 0]),
            ("a", 1, [1]),
            ("aaaa", 1, [4]),
            ("b", 2, [0, 1]),
            ("abba", 2, [2, 2]),
            ("abba", 3, [2, 2, 0]),
            ("abba", 4, [2, 2, 0, 0]),
            ("cab", 3, [1, 1, 1]),
            ("dad", 4, [1, 0, 0, 2]),
            ("dcba" * 5000, 4, [5000, 5000, 5000, 5000]),
        ]:
            with self.subTest(word=word, many=many):
                told = counts(word, many)
                self.assertEqual(told, wanted)
                self.assertIs(type(told), list)

    def test_all_short_words(self):
        for many in range(1, 5):
            for size in range(5):
                for signs in itertools.product("abcd"[:many], repeat=size):
                    wanted = [signs.count(letter) for letter in "abcd"[:many]]
                    self.assertEqual(counts("".join(signs), many), wanted)

    def test_a_list_told_is_the_askers_own(self):
        told = counts("abba", 2)
        told[0] = 7
        told.append(8)
        self.assertEqual(counts("abba", 2), [2, 2])


class TestTable(unittest.TestCase):
    def test_told_tables(self):
        for rule, wanted in [
            (("a",), [[1]]),
            (("a" * 100,), [[100]]),
            (DOUBLES, [[1, 1], [1, 1]]),
            (GOLDEN, [[1, 1], [1, 0]]),
            (("a", "aab"), [[1, 0], [2, 1]]),
            (("abc", "ac", "b"), [[1, 1, 1], [1, 0, 1], [0, 1, 0]]),
            (LONGEST, [[25, 25, 25, 25], [0, 100, 0, 0], [0, 0, 50, 50], [99, 0, 0, 1]]),
        ]:
            with self.subTest(rule=rule):
                told = table(rule)
                self.assertEqual(told, wanted)
                self.assertIs(type(told), list)
                self.assertEqual({type(row) for row in told}, {list})

    def test_a_row_for_each_letter(self):
        for rule in RULES:
            wanted = [[word.count(letter) for letter in "abcd"[:len(rule)]] for word in rule]
            self.assertEqual(table(rule), wanted)

    def test_a_table_told_is_the_askers_own(self):
        told = table(DOUBLES)
        told[0][0] = 9
        self.assertEqual(told[1], [1, 1])
        told[1].append(9)
        told.append([])
        self.assertEqual(table(DOUBLES), [[1, 1], [1, 1]])


class TestCountsBehind(unittest.TestCase):
    def test_against_words_written_out(self):
        for rule in RULES[:1] + RULES[1:400:7] + FOUR_LETTERS:
            many = len(rule)
            for numbers in itertools.product(range(3), repeat=many):
                word = "".join(letter * number for letter, number in zip("abcd", numbers))
                for times in range(4):
                    made = put_often(rule, word, times)
                    wanted = [made.count(letter) for letter in "abcd"[:many]]
                    self.assertEqual(counts_behind(rule, list(numbers), times), wanted)

    def test_the_order_of_the_signs_does_not_matter(self):
        rule = ("abc", "ac", "b")
        for word in ("abc", "cab", "bca"):
            made = put_often(rule, word, 5)
            wanted = [made.count(letter) for letter in "abc"]
            self.assertEqual(counts_behind(rule, [1, 1, 1], 5), wanted)

    def test_no_turn(self):
        for rule in RULES:
            numbers = [7, 0, 10 ** 299, 3][:len(rule)]
            self.assertEqual(counts_behind(rule, numbers, 0), numbers)

    def test_noughts_stay_noughts(self):
        for rule in RULES[::5]:
            nought = [0] * len(rule)
            for times in (0, 1, 200):
                self.assertEqual(counts_behind(rule, nought, times), nought)

    def test_two_hundred_turns(self):
        self.assertEqual(counts_behind(("aa",), [3], 200), [3 * 2 ** 200])
        self.assertEqual(counts_behind(("a" * 100,), [1], 200), [100 ** 200])
        self.assertEqual(counts_behind(DOUBLES, [1, 0], 200), [2 ** 199, 2 ** 199])
        self.assertEqual(counts_behind(("ab", "b"), [5, 1], 200), [5, 1001])
        self.assertEqual(counts_behind(("b", "a"), [5, 1], 200), [5, 1])
        self.assertEqual(counts_behind(("b", "a"), [5, 1], 199), [1, 5])
        self.assertEqual(counts_behind(("b", "c", "a"), [1, 2, 3], 200), [2, 3, 1])
        golden = golden_numbers(202)
        self.assertEqual(counts_behind(GOLDEN, [1, 0], 200), [golden[200], golden[199]])

    def test_as_many_as_a_turned_word_has(self):
        rule = ("ab", "bc", "c")
        made = turned(rule, "a", 198)
        self.assertEqual(counts_behind(rule, [1, 0, 0], 198), [made.count(x) for x in "abc"])

    def test_numbers_of_three_hundred_figures(self):
        great = 10 ** 300 - 1
        self.assertEqual(counts_behind(DOUBLES, [great, 1], 1), [10 ** 300, 10 ** 300])
        self.assertEqual(counts_behind(("a", "b"), [great, great], 200), [great, great])
        self.assertEqual(counts_behind(("aaa",), [great], 200), [great * 3 ** 200])
        self.assertEqual(
            counts_behind(("ab", "b", "c", "d"), [great, 0, 5, great], 200),
            [great, 200 * great, 5, great],
        )
        self.assertEqual(sum(counts_behind(LONGEST, [great] * 4, 200)), 4 * great * 100 ** 200)

    def test_turns_add_up(self):
        numbers = [3, 10 ** 50, 0, 1]
        for rule in FOUR_LETTERS:
            for times in (0, 1, 60, 100):
                half = counts_behind(rule, numbers, times)
                self.assertEqual(
                    counts_behind(rule, half, times), counts_behind(rule, numbers, 2 * times)
                )

    def test_somewhat_more_is_not_refused(self):
        self.assertEqual(counts_behind(("aa",), [1], 201), [2 ** 201])
        self.assertEqual(counts_behind(DOUBLES, [10 ** 310, 0], 1), [10 ** 310, 10 ** 310])

    def test_a_list_handed_in_stays_as_it_was(self):
        for times in (0, 1, 5, 200):
            numbers = [1, 2]
            told = counts_behind(DOUBLES, numbers, times)
            self.assertEqual(numbers, [1, 2])
            self.assertIsNot(told, numbers)
            told[0] = 9
            told.append(9)
            self.assertEqual(numbers, [1, 2])

    def test_a_list_changed_later_changes_no_answer(self):
        numbers = [1, 2]
        told = counts_behind(DOUBLES, numbers, 0)
        numbers[0] = 9
        self.assertEqual(told, [1, 2])
        self.assertEqual(counts_behind(DOUBLES, [1, 2], 0), [1, 2])


class TestSizes(unittest.TestCase):
    def test_against_words_written_out(self):
        for rule in RULES:
            if rule in ONE_LETTER:
                continue
            for times in range(5):
                wanted = [len(put_often(rule, letter, times)) for letter in "abcd"[:len(rule)]]
                told = sizes(rule, times)
                self.assertEqual(told, wanted)
                self.assertIs(type(told), list)

    def test_no_turn(self):
        for rule in RULES:
            self.assertEqual(sizes(rule, 0), [1] * len(rule))

    def test_one_letter(self):
        for size in (1, 2, 3, 100):
            for times in (0, 1, 2, 199, 200):
                self.assertEqual(sizes(("a" * size,), times), [size ** times])

    def test_two_hundred_turns(self):
        golden = golden_numbers(203)
        self.assertEqual(sizes(DOUBLES, 200), [2 ** 200, 2 ** 200])
        self.assertEqual(sizes(GOLDEN, 200), [golden[201], golden[200]])
        self.assertEqual(sizes(("ab", "b"), 200), [201, 1])
        self.assertEqual(sizes(("b", "b"), 200), [1, 1])
        self.assertEqual(sizes(("ab", "bc", "c"), 200), [1 + 200 + 100 * 199, 201, 1])
        self.assertEqual(sizes(LONGEST, 200), [100 ** 200] * 4)

    def test_they_are_the_sums_of_the_counts(self):
        for rule in RULES:
            for times in (1, 6, 200):
                many = len(rule)
                alone = [[int(k == place) for k in range(many)] for place in range(many)]
                wanted = [sum(counts_behind(rule, numbers, times)) for numbers in alone]
                self.assertEqual(sizes(rule, times), wanted)

    def test_somewhat_more_turns_are_not_refused(self):
        self.assertEqual(sizes(("aa", "b"), 201), [2 ** 201, 1])

    def test_a_list_told_is_the_askers_own(self):
        for times in (0, 3):
            before = sizes(GOLDEN, times)
            told = sizes(GOLDEN, times)
            told[1] = 99
            told.append(0)
            self.assertEqual(sizes(GOLDEN, times), before)


class TestAskedAgain(unittest.TestCase):
    def test_the_same_answers_behind_other_askings(self):
        def answers():
            return [
                counts("abcab", 3), table(GOLDEN), counts_behind(GOLDEN, [4, 5], 9),
                sizes(("abc", "ac", "b"), 12),
            ]

        before = answers()
        for rule in RULES[::11]:
            counts_behind(rule, [2] * len(rule), 5)
            sizes(rule, 5)
            table(rule)
        self.assertEqual(answers(), before)


if __name__ == "__main__":
    unittest.main()
