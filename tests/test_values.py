"""flagclause/values.py: points 1 and 14."""

import itertools
import unittest

from flagclause import values
from flagclause.errors import InvalidValue
from flagclause.values import format_value, parse_value, shorten_value
from tests.helper import (
    NO_TOKENS, ODD_VALUES, VALID_CHARACTERS, check_defined_in, check_error, value_by_search,
)

DIGIT = ("int", 0, 9)
WIDE = ("int", -9999, 9999)
MODE = ("choice", ("fast", "full", "slow"))
NESTED = ("choice", ("a", "abc", "ab", "b", "bcde", "bcxy"))
WORD = ("word",)

RANGES = (DIGIT, WIDE, ("int", 1, 1), ("int", -9999, -9999), ("int", 9999, 9999), ("int", -5, 12), ("int", 0, 0))

# What is no kind with values, whatever the text or the value is.
NO_KINDS = (
    None, True, False, 0, 5, "", "int", "word", "choice", (), ("int",), ("int", 0), ("int", 0, 9, 9), ("int", 1, 0),
    ("int", -10000, 0), ("int", 0, 10000), ("int", False, 9), ("int", 0, True), ("int", "0", "9"), ("int", None, None),
    ("Int", 0, 9), ["int", 0, 9], ("choice",), ("choice", ()), ("choice", ["a"]), ("choice", "a"), ("choice", ("",)),
    ("choice", ("a", "a")), ("choice", ("A",)), ("choice", ("a-b",)), ("choice", ("a" * 13,)), ("choice", (1,)),
    ("choice", tuple("abcdefghi")), ("choice", ("a",), ("b",)), ("choice", None), ["choice", ("a",)], ("word", "a"),
    ["word"], ("words",), (("word",),), ("flag",), (None,), (None, "a"), ("word", None), 10 ** 5000,
)


class FileTest(unittest.TestCase):
    def test_defined_here(self):
        check_defined_in(self, values, parse_value, format_value, shorten_value)


class ValuesCase(unittest.TestCase):
    def check(self, function, kind, argument, expected):
        with self.subTest((function.__name__, kind, argument)):
            found = function(kind, argument)
            self.assertEqual(found, expected)
            self.assertIs(type(found), type(expected))

    def invalid(self, function, kind, argument):
        with self.subTest((function.__name__, kind, argument)):
            check_error(self, InvalidValue(), function, kind, argument)


class ParseValueTest(ValuesCase):
    def parse(self, kind, text, expected):
        self.check(parse_value, kind, text, expected)

    def no_text(self, kind, *texts):
        for text in texts:
            self.invalid(parse_value, kind, text)

    def test_examples(self):
        self.parse(("choice", ("fast", "full", "slow")), "s", "slow")
        self.no_text(("choice", ("fast", "full", "slow")), "f")

    def test_ends_of_a_range(self):
        for kind in RANGES:
            _, low, high = kind
            for number in range(max(low, -9999), min(high, 9999) + 1):
                self.assertEqual(parse_value(kind, str(number)), number)
            self.no_text(kind, str(low - 1), str(high + 1))
        self.parse(("int", -5, 12), "-5", -5)
        self.parse(("int", -5, 12), "12", 12)
        self.no_text(("int", -5, 12), "-6", "13")

    def test_texts_of_integers(self):
        for text, number in (("0", 0), ("-1", -1), ("7", 7), ("10", 10), ("-10", -10), ("9999", 9999),
                             ("-9999", -9999), ("1000", 1000), ("-100", -100)):
            self.parse(WIDE, text, number)

    def test_texts_that_are_no_integers(self):
        for kind in RANGES:
            self.no_text(
                kind, "", "-", "--1", "-0", "-00", "00", "01", "-01", "007", "0000", "00001", "+1", "+0", " 1", "1 ",
                "1 2", "10000", "-10000", "00000", "12345", "99999", "1_0", "1.0", "1e1", "0x1", "a", "1a", "a1", "-a",
                "1-", "-1-", "1-1", "\u0661", "\u00b2", "\uff11", "1\n", "\t1", "True", "None",
            )

    def test_other_characters(self):
        for character in VALID_CHARACTERS:
            if character not in "0123456789":
                self.no_text(WIDE, character, "1" + character, "-1" + character, "-" + character)
            if character not in "0123456789-":
                self.no_text(WIDE, character + "1")

    def test_every_short_text_of_integers(self):
        for kind in RANGES:
            for size in range(5):
                for text in map("".join, itertools.product("-0159", repeat=size)):
                    expected = value_by_search(kind, text)
                    if expected is None:
                        check_error(self, InvalidValue(), parse_value, kind, text)
                    else:
                        self.assertEqual(parse_value(kind, text), expected)

    def test_whole_words(self):
        for kind in (MODE, NESTED, ("choice", ("a",)), ("choice", ("a" * 12, "a" * 11))):
            for word in kind[1]:
                self.parse(kind, word, word)

    def test_beginnings(self):
        for text, word in (("fa", "fast"), ("fas", "fast"), ("fu", "full"), ("ful", "full"), ("s", "slow"),
                           ("sl", "slow"), ("slo", "slow")):
            self.parse(MODE, text, word)
        self.no_text(MODE, "f", "", "x", "fat", "fasts", "fullx", "slow ", " slow", "S", "SLOW", "low", "a", "-", "*")

    def test_word_that_is_the_beginning_of_another_one(self):
        for text, word in (("a", "a"), ("ab", "ab"), ("abc", "abc"), ("b", "b"), ("bcd", "bcde"), ("bcx", "bcxy")):
            self.parse(NESTED, text, word)
        self.no_text(NESTED, "bc", "abcd", "")
        self.parse(("choice", ("abc", "ab")), "ab", "ab")
        self.no_text(("choice", ("abc", "ab")), "a")
        self.parse(("choice", ("abc",)), "a", "abc")
        self.no_text(("choice", ("abc",)), "", "abcd", "b", "x")

    def test_every_text_of_a_word(self):
        for word in VALID_CHARACTERS:
            self.parse(WORD, word, word)
        for text in ("", " ", "-", "--", "--key=1", "'a b'", "\\", "0", "-0", "a" * 200, VALID_CHARACTERS):
            self.parse(WORD, text, text)

    def test_texts_that_are_no_tokens(self):
        for kind in (WORD, DIGIT, WIDE, MODE, ("choice", ("a",))):
            self.no_text(kind, *NO_TOKENS)

    def test_invalid_kinds(self):
        for kind in NO_KINDS:
            self.no_text(kind, "0", "a", "", "fast", None, 0, True)


class FormatAndShortenTest(ValuesCase):
    def texts(self, kind, value, text, short=None):
        self.check(format_value, kind, value, text)
        self.check(shorten_value, kind, value, text if short is None else short)
        self.assertEqual(parse_value(kind, shorten_value(kind, value)), value)

    def no_value(self, kind, *candidates):
        for value in candidates:
            self.invalid(format_value, kind, value)
            self.invalid(shorten_value, kind, value)

    def test_examples(self):
        self.assertEqual(format_value(("int", 0, 9), 7), '7')
        self.assertEqual(shorten_value(("choice", ("fast", "full", "slow")), "full"), 'fu')

    def test_integers(self):
        for number, text in ((0, "0"), (-1, "-1"), (9, "9"), (10, "10"), (9999, "9999"), (-9999, "-9999")):
            self.texts(WIDE, number, text)
        for kind in RANGES:
            self.texts(kind, kind[1], str(kind[1]))
            self.texts(kind, kind[2], str(kind[2]))
            self.no_value(kind, kind[1] - 1, kind[2] + 1, 10 ** 5000, -10 ** 5000)

    def test_values_that_are_no_integers(self):
        for kind in RANGES:
            self.no_value(kind, None, True, False, "", "0", "1", "-1", "9999", (), (1,), [], [1], {})

    def test_choices(self):
        for word, short in (("fast", "fa"), ("full", "fu"), ("slow", "s")):
            self.texts(MODE, word, word, short)
        for word, short in (("a", "a"), ("ab", "ab"), ("abc", "abc"), ("b", "b"), ("bcde", "bcd"), ("bcxy", "bcx")):
            self.texts(NESTED, word, word, short)
        self.texts(("choice", ("slow",)), "slow", "slow", "s")
        self.texts(("choice", ("a" * 12, "a" * 11 + "b")), "a" * 12, "a" * 12)
        self.texts(("choice", ("aab", "ab", "aac")), "ab", "ab")

    def test_no_shorter_text_represents_the_choice(self):
        for kind in (MODE, NESTED, ("choice", ("ab", "aab", "abb", "b", "bab", "a"))):
            for word in kind[1]:
                texts = [word[:size] for size in range(len(word) + 1) if value_by_search(kind, word[:size]) == word]
                self.check(shorten_value, kind, word, texts[0])

    def test_values_that_are_no_choices(self):
        for kind in (MODE, NESTED):
            self.no_value(kind, "", "f", "fa", "s", "bc", "slowx", "SLOW", None, True, False, 0, 1, ("slow",), ["slow"],
                          kind[1], list(kind[1]), {})

    def test_words(self):
        for text in ("", " ", "-", "--", "it's", "\\", "0", "a" * 200, VALID_CHARACTERS):
            self.texts(WORD, text, text)
        self.no_value(WORD, *NO_TOKENS)

    def test_invalid_kinds(self):
        for kind in NO_KINDS:
            self.no_value(kind, "0", "a", "", "fast", None, 0, 1, True, [], (), ("a",))

    def test_no_other_kinds_and_values(self):
        for kind in ODD_VALUES:
            for value in ODD_VALUES:
                self.no_value(kind, value)
                self.invalid(parse_value, kind, value)


if __name__ == "__main__":
    unittest.main()
