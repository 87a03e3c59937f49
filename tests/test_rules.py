import itertools
import unittest

from neveragain.errors import NoRule, TooGreat
from neveragain.rules import behind, image, is_rule, read_rule, turned, written_rule

DOUBLES = ("ab", "ba")
GOLDEN = ("ab", "a")
THREES = ("abc", "ac", "b")
FOURS = ("abcd", "d", "cc", "ba")
ALONE = ("aa",)
RULES = [ALONE, ("a",), DOUBLES, GOLDEN, ("b", "a"), THREES, FOURS, ("d", "c", "b", "a")]

NO_TEXTS = [
    None, 0, 7, True, False, [], ["ab", "ba"], (), ("ab", "ba"), {}, {"a": "ab"},
    {"ab"}, b"ab ba", 1.5, object(), str,
]


def words_of(many, most):
    for size in range(most + 1):
        for signs in itertools.product("abcd"[:many], repeat=size):
            yield "".join(signs)


class RuleTest(unittest.TestCase):
    def assert_too_great(self, most, asked, *handed):
        with self.assertRaises(TooGreat) as taken:
            asked(*handed)
        self.assertEqual(taken.exception.most, most)


class TestImage(RuleTest):
    def test_told_images(self):
        for rule, word, wanted in [
            (ALONE, "a", "aa"),
            (ALONE, "aaa", "aaaaaa"),
            (DOUBLES, "a", "ab"),
            (DOUBLES, "b", "ba"),
            (DOUBLES, "abba", "abbabaab"),
            (GOLDEN, "abaab", "abaababa"),
            (("b", "a"), "aab", "bba"),
            (THREES, "cab", "babcac"),
            (FOURS, "dcba", "baccdabcd"),
            (("d", "c", "b", "a"), "abcd", "dcba"),
        ]:
            with self.subTest(rule=rule, word=word):
                self.assertEqual(image(rule, word), wanted)

    def test_the_empty_word(self):
        for rule in RULES:
            self.assertEqual(image(rule, ""), "")

    def test_a_letter_gives_its_word(self):
        for rule in RULES:
            for place, word in enumerate(rule):
                self.assertEqual(image(rule, "abcd"[place]), word)

    def test_one_word_put_behind_another(self):
        for rule in RULES:
            words = list(words_of(len(rule), 3))
            for one, other in itertools.product(words, repeat=2):
                self.assertEqual(image(rule, one + other), image(rule, one) + image(rule, other))

    def test_a_long_word(self):
        self.assertEqual(image(DOUBLES, "ab" * 3000), "abba" * 3000)
        self.assertEqual(image(THREES, "abc" * 1000), "abcacb" * 1000)

    def test_words_of_a_hundred_signs(self):
        rule = ("ab" * 50, "b" * 100)
        self.assertEqual(image(rule, "ba"), "b" * 100 + "ab" * 50)

    def test_the_greatest_size(self):
        self.assertEqual(image(ALONE, "a" * 10000), "a" * 20000)
        self.assertEqual(image(("ab" * 50, "b"), "a" * 200), "ab" * 10000)
        self.assertEqual(image(("b", "a"), "ab" * 10000), "ba" * 10000)

    def test_more_than_the_greatest_size(self):
        self.assert_too_great(20000, image, ("aaa",), "a" * 6667)
        self.assert_too_great(20000, image, ("aa", "b"), "a" * 10000 + "b")
        self.assert_too_great(20000, image, ("aa", "b"), "b" + "a" * 10000)
        self.assert_too_great(20000, image, ("a" * 100,), "a" * 20000)


class TestTurned(RuleTest):
    def test_no_turn(self):
        for rule in RULES:
            for word in words_of(len(rule), 3):
                self.assertEqual(turned(rule, word, 0), word)
        self.assertEqual(turned(ALONE, "a" * 20000, 0), "a" * 20000)

    def test_one_turn(self):
        self.assertEqual(turned(DOUBLES, "ab", 1), "abba")
        self.assertEqual(turned(THREES, "cab", 1), "babcac")

    def test_several_turns(self):
        self.assertEqual(turned(DOUBLES, "a", 4), "abbabaabbaababba")
        self.assertEqual(turned(GOLDEN, "a", 5), "abaababaabaab")
        self.assertEqual(turned(ALONE, "a", 10), "a" * 1024)
        self.assertEqual(turned(THREES, "a", 3), "abcacbabcbac")

    def test_one_more_turn_is_the_image(self):
        for rule in RULES:
            for word in words_of(len(rule), 2):
                for times in range(5):
                    self.assertEqual(
                        turned(rule, word, times + 1), image(rule, turned(rule, word, times))
                    )

    def test_the_empty_word(self):
        for rule in RULES:
            for times in (0, 1, 7, 200):
                self.assertEqual(turned(rule, "", times), "")

    def test_words_of_one_sign_each_two_hundred_times(self):
        self.assertEqual(turned(("a",), "aaa", 200), "aaa")
        self.assertEqual(turned(("b", "a"), "aab", 200), "aab")
        self.assertEqual(turned(("b", "a"), "aab", 199), "bba")
        # 200 turns are two more than 66 rounds of three.
        self.assertEqual(turned(("b", "c", "a"), "abc", 200), "cab")
        self.assertEqual(turned(("b", "c", "d", "a"), "abcd", 200), "abcd")
        self.assertEqual(turned(("b", "c", "d", "a"), "abcd", 199), "dabc")
        self.assertEqual(turned(("b", "a"), "ab" * 10000, 200), "ab" * 10000)

    def test_a_slow_rule_two_hundred_times(self):
        self.assertEqual(turned(("ab", "b"), "a", 200), "a" + "b" * 200)

    def test_somewhat_more_turns_are_not_refused(self):
        self.assertEqual(turned(("b", "a"), "a", 201), "b")
        self.assertEqual(turned(("ab", "b"), "a", 250), "a" + "b" * 250)

    def test_the_greatest_size(self):
        self.assertEqual(turned(ALONE, "a" * 625, 5), "a" * 20000)
        self.assertEqual(turned(("aa", "b"), "a" * 624 + "b" * 32, 5), "a" * 19968 + "b" * 32)
        self.assertEqual(len(turned(("ab", "b"), "a" * 100, 199)), 20000)

    def test_more_than_the_greatest_size(self):
        self.assert_too_great(20000, turned, ("aa", "b"), "a" * 625 + "b", 5)
        self.assert_too_great(20000, turned, ALONE, "a" * 10001, 1)
        self.assert_too_great(20000, turned, ("ab", "b"), "a" * 100, 200)

    def test_far_more_than_the_greatest_size(self):
        self.assert_too_great(20000, turned, DOUBLES, "a", 200)
        self.assert_too_great(20000, turned, ("a" * 100,), "a", 200)
        self.assert_too_great(20000, turned, ("abcd" * 25,) * 4, "d", 200)


class TestBehind(RuleTest):
    def test_both_orders(self):
        self.assertEqual(behind(DOUBLES, GOLDEN), ("aba", "aab"))
        self.assertEqual(behind(GOLDEN, DOUBLES), ("abba", "ab"))
        self.assertEqual(behind(THREES, ("b", "c", "a")), ("bca", "ba", "c"))
        self.assertEqual(behind(("b", "c", "a"), THREES), ("ac", "b", "abc"))

    def test_a_rule_behind_itself(self):
        self.assertEqual(behind(DOUBLES, DOUBLES), ("abba", "baab"))
        self.assertEqual(behind(ALONE, ALONE), ("aaaa",))
        self.assertEqual(behind(FOURS, FOURS), ("abcddccba", "ba", "cccc", "dabcd"))

    def test_it_puts_the_later_image_of_the_first_image(self):
        for first, later in itertools.product(RULES, repeat=2):
            if len(first) != len(later):
                continue
            both = behind(first, later)
            self.assertIs(is_rule(both), True)
            self.assertEqual(both, tuple(image(later, word) for word in first))
            for word in words_of(len(first), 3):
                self.assertEqual(image(both, word), image(later, image(first, word)))

    def test_the_greatest_word(self):
        self.assertEqual(behind(("a" * 50,), ALONE), ("a" * 100,))
        self.assertEqual(behind(("a", "b"), ("a" * 100, "b")), ("a" * 100, "b"))
        self.assertEqual(behind(("b", "a" * 50), ("ab", "b")), ("b", "ab" * 50))

    def test_more_than_the_greatest_word(self):
        self.assert_too_great(100, behind, ("a" * 50 + "b", "a"), ("aa", "b"))
        self.assert_too_great(100, behind, ("a", "a" * 50 + "b"), ("aa", "b"))
        self.assert_too_great(100, behind, ("a", "a", "a", "a" * 51), ("aa", "b", "c", "d"))
        self.assert_too_great(100, behind, ("a" * 100,), ("a" * 100,))


class TestIsRule(unittest.TestCase):
    def test_rules(self):
        for rule in RULES:
            self.assertIs(is_rule(rule), True)

    def test_sizes_of_words(self):
        for many in range(1, 5):
            for place in range(many):
                for size in (0, 1, 12, 13, 99, 100, 101, 1000):
                    words = ["a"] * many
                    words[place] = ("abcd"[:many] * size)[:size]
                    wanted = 1 <= size <= 100
                    self.assertIs(is_rule(tuple(words)), wanted, words)

    def test_how_many_words(self):
        for many in range(8):
            self.assertIs(is_rule(("a",) * many), 1 <= many <= 4)

    def test_a_letter_that_is_none_of_the_rule(self):
        signs = "abcdeABCD 0.~\n\t"
        for many in range(1, 5):
            for place in range(many):
                for sign in signs:
                    for word in (sign, "a" + sign, sign + "a", "a" + sign + "a"):
                        words = ["a"] * many
                        words[place] = word
                        wanted = sign in "abcd"[:many]
                        self.assertIs(is_rule(tuple(words)), wanted, words)

    def test_lists_in_the_place_of_tuples(self):
        for rule in RULES:
            self.assertIs(is_rule(list(rule)), False)
            self.assertIs(is_rule(tuple(list(word) for word in rule)), False)
            self.assertIs(is_rule(tuple(tuple(word) for word in rule)), False)
            self.assertIs(is_rule((rule,)), False)

    def test_things_that_are_no_rules(self):
        things = [
            "ab ba", "ab", "a", "", None, 0, 2, True, False, [], ["ab", "ba"], (), {},
            {"a": "ab"}, {0: "a"}, {"a"}, b"a", 1.5, object(), tuple, (None,), (1,), (True,),
            ("a", None), (None, "a"), ("a", 1), ("a", b"a"), (("a",),), ((),), ([],),
            ({},), ({"a": "a"},),
        ]
        for thing in things:
            with self.subTest(thing=thing):
                self.assertIs(is_rule(thing), False)

    def test_a_list_is_left_as_it_was(self):
        thing = ["ab", "ba"]
        is_rule(thing)
        self.assertEqual(thing, ["ab", "ba"])


class TestReadRule(unittest.TestCase):
    def assert_no_rule(self, thing):
        with self.assertRaises(NoRule, msg=repr(thing)):
            read_rule(thing)

    def test_told_rules(self):
        for text, rule in [
            ("a", ("a",)),
            ("aa", ("aa",)),
            ("ab ba", ("ab", "ba")),
            ("ab a", ("ab", "a")),
            ("abc ac b", ("abc", "ac", "b")),
            ("abcd d cc ba", ("abcd", "d", "cc", "ba")),
        ]:
            read = read_rule(text)
            self.assertEqual(read, rule)
            self.assertIs(type(read), tuple)
            self.assertEqual(written_rule(read), text)

    def test_sizes_of_words(self):
        for many in range(1, 5):
            for place in range(many):
                for size in range(1, 13):
                    words = ["a"] * many
                    words[place] = ("abcd"[:many] * size)[:size]
                    self.assertEqual(read_rule(" ".join(words)), tuple(words))
                for size in (0, 13, 14, 100, 101):
                    words = ["a"] * many
                    words[place] = ("abcd"[:many] * size)[:size]
                    self.assert_no_rule(" ".join(words))

    def test_all_words_of_twelve_signs(self):
        rule = ("abcdabcdabcd", "a" * 12, "bc" * 6, "dddddddddddc")
        self.assertEqual(read_rule("abcdabcdabcd aaaaaaaaaaaa bcbcbcbcbcbc dddddddddddc"), rule)

    def test_a_letter_that_is_none_of_the_rule(self):
        for text in [
            "b", "ab", "ba", "ab c", "c a", "ab ba d", "abc d a", "a b c e", "e a b c",
            "A", "ab Ba", "a b c D", "a1 b", "a-b ba", "a,b", "ab,ba", "x", "0", "rule ab ba",
        ]:
            self.assert_no_rule(text)

    def test_a_blank_too_many(self):
        for rule in RULES:
            text = written_rule(rule)
            self.assert_no_rule(" " + text)
            self.assert_no_rule(text + " ")
            self.assert_no_rule(" " + text + " ")
            if len(rule) > 1:
                self.assert_no_rule(text.replace(" ", "  ", 1))
        self.assert_no_rule("a b c  d")
        for many in range(6):
            self.assert_no_rule(" " * many)

    def test_five_words(self):
        self.assert_no_rule("a b c d a")
        self.assert_no_rule("a a a a a")
        self.assert_no_rule("a b c d e")

    def test_line_feeds_and_tabs(self):
        for sign in "\n\t":
            for text in ["ab ba", "aa", "a b c d"]:
                for place in range(len(text) + 1):
                    self.assert_no_rule(text[:place] + sign + text[place:])
                self.assert_no_rule(text.replace(" ", sign) + sign)
            self.assert_no_rule("ab" + sign + "ba")
            self.assert_no_rule("a" + sign + "a")
            self.assert_no_rule(sign)

    def test_a_long_text(self):
        self.assert_no_rule("a" * 20000)
        self.assert_no_rule("a " * 10000)

    def test_no_texts(self):
        for thing in NO_TEXTS:
            self.assert_no_rule(thing)


class TestWrittenRule(unittest.TestCase):
    def test_told_texts(self):
        self.assertEqual(written_rule(("a",)), "a")
        self.assertEqual(written_rule(DOUBLES), "ab ba")
        self.assertEqual(written_rule(THREES), "abc ac b")
        self.assertEqual(written_rule(FOURS), "abcd d cc ba")

    def test_read_again(self):
        for rule in RULES:
            self.assertEqual(read_rule(written_rule(rule)), rule)

    def test_words_of_any_size(self):
        for size in (12, 13, 50, 99, 100):
            self.assertEqual(written_rule(("a" * size,)), "a" * size)
            self.assertEqual(
                written_rule(("a" * size, "c", "b" * size)), "a" * size + " c " + "b" * size
            )


class TestAskedAgain(unittest.TestCase):
    def test_the_same_answers_behind_other_askings(self):
        def answers():
            return [
                image(DOUBLES, "abba"), turned(GOLDEN, "a", 6), behind(DOUBLES, GOLDEN),
                read_rule("abc ac b"), written_rule(FOURS), is_rule(DOUBLES), is_rule(["a"]),
            ]

        before = answers()
        for rule in RULES:
            turned(rule, "a", 3)
            behind(rule, rule)
        for asked, handed in [
            (image, (ALONE, "a" * 10001)), (turned, (DOUBLES, "a", 200)),
            (behind, (("a" * 100,), ALONE)), (read_rule, ("",)),
        ]:
            with self.assertRaises(ValueError):
                asked(*handed)
        self.assertEqual(answers(), before)


if __name__ == "__main__":
    unittest.main()
