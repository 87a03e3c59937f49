import itertools
import unittest

from neveragain.words import is_word, letters

NO_TEXTS = [
    None, 0, 1, -3, True, False, [], ["a"], ["a", "b"], (), ("a",), ("a", "b"),
    {}, {"a": "b"}, {"a"}, b"a", 1.5, object(), str,
]


class TestLetters(unittest.TestCase):
    def test_the_first_so_many(self):
        self.assertEqual([letters(many) for many in range(1, 5)], ["a", "ab", "abc", "abcd"])


class TestIsWord(unittest.TestCase):
    def test_the_empty_word(self):
        for many in range(1, 5):
            self.assertIs(is_word("", many), True)

    def test_all_short_texts(self):
        for size in range(1, 5):
            for signs in itertools.product("abcde", repeat=size):
                text = "".join(signs)
                for many in range(1, 5):
                    of_these = set(text) <= set("abcd"[:many])
                    self.assertIs(is_word(text, many), of_these, (text, many))

    def test_a_long_word(self):
        for many in range(1, 5):
            word = "abcd"[:many] * (20000 // many)
            self.assertIs(is_word(word, many), True)
            self.assertIs(is_word(word + "e", many), False)

    def test_a_foreign_sign_at_any_place(self):
        signs = [chr(code) for code in range(32, 127)] + ["\n", "\t"]
        for many in range(1, 5):
            known = "abcd"[:many]
            word = known * 3
            for sign in signs:
                for place in range(len(word) + 1):
                    text = word[:place] + sign + word[place:]
                    self.assertIs(is_word(text, many), sign in known, (text, many))

    def test_a_sign_alone(self):
        for many in range(1, 5):
            for code in range(32, 127):
                self.assertIs(is_word(chr(code), many), chr(code) in "abcd"[:many])

    def test_no_texts(self):
        for thing in NO_TEXTS:
            for many in range(1, 5):
                with self.subTest(thing=thing, many=many):
                    self.assertIs(is_word(thing, many), False)

    def test_a_list_is_left_as_it_was(self):
        thing = ["a", "b"]
        is_word(thing, 2)
        self.assertEqual(thing, ["a", "b"])


if __name__ == "__main__":
    unittest.main()
