import importlib
import inspect
import unittest

# Each function with its arguments, as the document tells them.
FUNCTIONS = {
    "words": ["letters(many)", "is_word(thing, many)"],
    "rules": [
        "is_rule(thing)", "image(rule, word)", "turned(rule, word, times)", "behind(first, later)",
        "read_rule(text)", "written_rule(rule)",
    ],
    "counts": [
        "counts(word, many)", "table(rule)", "counts_behind(rule, numbers, times)",
        "sizes(rule, times)",
    ],
    "places": [
        "grows(rule, start)", "figures(rule, start, n)", "letter_at(rule, start, n)",
        "stretch_at(rule, start, n, many)", "counts_to(rule, start, n)",
    ],
    "pieces": ["pieces(rule, start, length)"],
    "again": ["mixes(rule)", "distance(rule, start, piece)"],
    "repeats": ["repeat_in(word, limit)", "greatest_share(word)"],
    "keeping": ["free_words(many, length)", "looked_length(rule)", "keeps(rule)"],
    "parted": ["parted(many, limit, length)"],
    "same": ["same(rule, other, start)"],
    "shares": ["shares(rule)"],
}


class TestInterface(unittest.TestCase):
    def test_names_and_arguments(self):
        for module, functions in FUNCTIONS.items():
            loaded = importlib.import_module("neveragain." + module)
            for wanted in functions:
                with self.subTest(module=module, wanted=wanted):
                    name = wanted.partition("(")[0]
                    told = name + str(inspect.signature(getattr(loaded, name)))
                    self.assertEqual(told, wanted)

    def test_the_desk(self):
        desk = importlib.import_module("neveragain.desk").Desk
        self.assertIs(type(desk), type)
        self.assertEqual(str(inspect.signature(desk)), "()")
        self.assertEqual(str(inspect.signature(desk().say)), "(row)")


if __name__ == "__main__":
    unittest.main()
