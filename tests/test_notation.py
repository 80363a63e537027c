"""flagclause/notation.py: points 1 and 21."""

import random
import unittest

from flagclause import notation
from flagclause.errors import InvalidGrammar, NotationError
from flagclause.notation import format_grammar, parse_grammar
from tests.helper import (
    EXAMPLE, LINE_EXAMPLE, check_defined_in, check_error, check_invalid_grammars, flags, grammar_of,
    grammars_for_search, large_grammars,
)

TEXT = (
    "option sign s flag\noption key k word\noption level l int 0 9\noption mode - choice fast full slow\n"
    "words 0 2\nneeds sign key"
)

# A text with every form of row, and its grammar.
ROWS = (
    "option a-b z flag",
    "option b - int -9999 9999",
    "option c c choice x",
    "option d - choice aa ab abcdefghijkl",
    "option abcdefghijkl d word",
    "words 3 9",
    "needs a-b b",
    "excludes b b",
    "either c abcdefghijkl",
)
GRAMMAR = (
    (
        ("a-b", "z", None),
        ("b", "", ("int", -9999, 9999)),
        ("c", "c", ("choice", ("x",))),
        ("d", "", ("choice", ("aa", "ab", "abcdefghijkl"))),
        ("abcdefghijkl", "d", ("word",)),
    ),
    (3, 9),
    (("needs", "a-b", "b"), ("excludes", "b", "b"), ("either", "c", "abcdefghijkl")),
)

# Words that cannot stand at a place, by what stands there.
NO_NAMES = ("", "-", "--", "-a", "a-", "A", "a1", "a" * 13, "a_b", "a.b", "5", "*")
NO_SHORTS = ("", "--", "A", "ab", "1", "=", "-a", "a-")
NO_KINDS = ("", "-", "Flag", "flags", "fla", "integer", "i", "choices", "words", "none", "5", "option")
NO_INTEGERS = ("", "-", "--1", "-0", "00", "01", "-01", "+1", "10000", "-10000", "99999", "00000", "a", "1a", "1.0", "-a")
NO_CHOICES = ("", "-", "A", "a-b", "a1", "a" * 13, "1")
NO_WORDS = ("", "-", "Option", "options", "option-", "opt", "word", "wordss", "Words", "0")
NO_CLAUSE_WORDS = ("", "-", "Needs", "need", "requires", "eithers", "option", "words", "flag", "5")


def with_word(rows, row, column, word):
    """Return a text in which one word is another one, or stands behind all others."""
    words = rows[row].split(" ")
    return "\n".join([*rows[:row], " ".join([*words[:column], word, *words[column + 1:]]), *rows[row + 1:]])


class FileTest(unittest.TestCase):
    def test_defined_here(self):
        check_defined_in(self, notation, format_grammar, parse_grammar)


class FormatAndParseTest(unittest.TestCase):
    def both(self, grammar, text):
        self.assertEqual(format_grammar(grammar), text)
        self.assertEqual(parse_grammar(text), grammar)
        # Lists are equal to no tuples, but numbers may be equal to booleans.
        self.assertEqual(repr(parse_grammar(text)), repr(grammar))

    def test_examples(self):
        grammar = LINE_EXAMPLE
        expected = 'option sign s flag\noption key k word\noption level l int 0 9\noption mode - choice fast full slow\nwords 0 2\nneeds sign key'
        self.assertEqual(format_grammar(grammar), expected)
        self.assertEqual(parse_grammar("option sign s flag\nwords 0 2"), ((('sign', 's', None),), (0, 2), ()))
        check_error(self, NotationError(0, 3), parse_grammar, "option sign s\nwords 0 2")

    def test_every_form_of_row(self):
        self.both(GRAMMAR, "\n".join(ROWS))
        self.both(LINE_EXAMPLE, TEXT)
        self.both(EXAMPLE, "option sign s flag\noption key k word\noption raw - flag\nwords 0 2\n"
                           "needs sign key\nexcludes key raw")

    def test_no_clauses(self):
        self.both((flags("a"), (0, 0), ()), "option a - flag\nwords 0 0")
        self.both((flags("a"), (9, 9), ()), "option a - flag\nwords 9 9")

    def test_names_that_are_words_of_the_notation(self):
        self.both(
            ((("option", "", ("choice", ("flag", "int", "choice", "word"))), ("words", "", None), ("needs", "n", None)),
             (0, 0), (("needs", "needs", "option"), ("either", "words", "words"))),
            "option option - choice flag int choice word\noption words - flag\noption needs n flag\nwords 0 0\n"
            "needs needs option\neither words words",
        )

    def test_integers(self):
        for low, high in ((0, 0), (-1, 0), (-9999, -9999), (9999, 9999), (-10, 10), (5, 1000)):
            self.both(((("a", "", ("int", low, high)),), (1, 2), ()), f"option a - int {low} {high}\nwords 1 2")

    def test_most_of_everything(self):
        names = [f"abcdefghi-{first}{second}" for first in "abc" for second in "wxyz"]
        options = tuple((name, letter, ("choice", tuple("hgfedcba"))) for name, letter in zip(names, "abcdefghijkl"))
        clauses = tuple(("excludes", first, second) for first in names[:6] for second in names[:10])
        rows = [f"option {name} {letter} choice h g f e d c b a" for name, letter in zip(names, "abcdefghijkl")]
        rows += ["words 0 9"] + [" ".join(clause) for clause in clauses]
        self.both((options, (0, 9), clauses), "\n".join(rows))

    def test_read_again(self):
        for grammar in grammars_for_search(seed=21) + large_grammars(seed=21):
            self.assertEqual(parse_grammar(format_grammar(grammar)), grammar)

    def test_invalid_grammars(self):
        check_invalid_grammars(self, format_grammar)


class NotationErrorTest(unittest.TestCase):
    def check(self, text, row, column):
        with self.subTest(text):
            check_error(self, NotationError(row, column), parse_grammar, text)

    def wrong_words(self, row, column, *words):
        for word in words:
            self.check(with_word(ROWS, row, column, word), row, column)

    def test_empty_text(self):
        self.check("", 0, 0)
        self.check("\n", 0, 0)
        self.check(" ", 0, 0)

    def test_first_words(self):
        for row in range(6):
            self.wrong_words(row, 0, *NO_WORDS, "needs", "excludes", "either")
        for row in (6, 7, 8):
            self.wrong_words(row, 0, *NO_CLAUSE_WORDS)

    def test_names(self):
        for row in range(5):
            self.wrong_words(row, 1, *NO_NAMES)
        for row in (6, 7, 8):
            self.wrong_words(row, 1, *NO_NAMES)
            self.wrong_words(row, 2, *NO_NAMES)

    def test_short_names(self):
        for row in range(5):
            self.wrong_words(row, 2, *NO_SHORTS)

    def test_kinds(self):
        for row in range(5):
            self.wrong_words(row, 3, *NO_KINDS)

    def test_integers(self):
        for row, column in ((1, 4), (1, 5), (5, 1), (5, 2)):
            self.wrong_words(row, column, *NO_INTEGERS)

    def test_choices(self):
        for row, column in ((2, 4), (3, 4), (3, 5), (3, 6)):
            self.wrong_words(row, column, *NO_CHOICES)

    def test_one_word_too_many(self):
        for row, column in ((0, 4), (1, 6), (4, 4), (5, 3), (6, 3), (7, 3), (8, 3)):
            self.wrong_words(row, column, "", "a", "0", "flag", "a b", "a ")

    def test_row_that_ends_too_early(self):
        for row, text in enumerate(ROWS):
            words = text.split(" ")
            least = 5 if row in (2, 3) else len(words)
            for count in range(1, least):
                rows = [*ROWS[:row], " ".join(words[:count]), *ROWS[row + 1:]]
                self.check("\n".join(rows), row, count)

    def test_empty_words(self):
        for row, text in enumerate(ROWS):
            words = text.split(" ")
            for column in range(len(words) + 1):
                rows = [*ROWS[:row], " ".join([*words[:column], "", *words[column:]]), *ROWS[row + 1:]]
                self.check("\n".join(rows), row, column)

    def test_empty_rows(self):
        for row in range(len(ROWS) + 1):
            self.check("\n".join([*ROWS[:row], "", *ROWS[row:]]), row, 0)

    def test_other_order(self):
        self.check("words 0 0\noption a - flag", 1, 0)
        self.check("option a - flag\nneeds a a\nwords 0 0", 1, 0)
        self.check("needs a a\noption a - flag\nwords 0 0", 0, 0)
        self.check("option a - flag\nwords 0 0\nneeds a a\noption b - flag", 3, 0)
        self.check("words 0 0\nneeds a a\noption a - flag", 2, 0)

    def test_row_words_is_missing(self):
        self.check("option a - flag", 1, 0)
        self.check("option a - flag\noption b b word", 2, 0)
        self.check("option a - flag\noption a - flag", 2, 0)
        self.check("option a - flag\nneeds a a", 1, 0)
        self.check("option a - flag\n", 1, 0)
        self.check("\n".join(ROWS[:5]), 5, 0)

    def test_row_words_twice(self):
        self.check("option a - flag\nwords 0 0\nwords 0 0", 2, 0)
        self.check("option a - flag\nwords 0 0\nneeds a a\nwords 0 0", 3, 0)

    def test_other_characters(self):
        self.check("option a - flag\twords 0 0", 0, 3)
        self.check("option a - flag\r\nwords 0 0", 0, 3)
        self.check("option \u00e9 - flag\nwords 0 0", 0, 1)
        self.check("option a - flag\nwords \u0661 2", 1, 1)
        self.check("option a - flag\nwords 0 \u00b2", 1, 2)

    def test_first_one_counts(self):
        self.check("option A ab x y\nwords 0", 0, 1)
        self.check("option a ab x y\nwords 0", 0, 2)
        self.check("option a b x y\nwords 0", 0, 3)
        self.check("option a b int 5 x y\nwords 0", 0, 5)
        self.check("option a b choice x Y\noption", 0, 5)
        self.check("option A", 0, 1)
        self.check("option a b\n\n", 0, 3)
        self.check("option a b flag\nwords 0\n\n", 1, 2)
        self.check("option a b flag\nwords 0 0\nneeds A B\nneeds", 2, 1)
        self.check("option a - flag x y", 0, 4)

    def test_not_a_string(self):
        for text in (None, True, 0, (), [], ["option a - flag"], {}):
            self.check(text, 0, 0)

    def test_form_comes_before_the_grammar(self):
        self.check("option a - flag\noption a - flag\nwords 0", 2, 2)
        self.check("option a - int 5 1\nwords 0 0\nneeds", 2, 1)
        self.check("words 5 1\nneeds a", 1, 2)

    def test_against_the_form_of_each_row(self):
        source = random.Random(121)
        fitting = {
            "option": ["option"], "words": ["words"], "name": ["a", "b-c", "flag"], "short": ["a", "-"],
            "kind": ["flag", "int", "choice", "word"], "integer": ["0", "-5", "9999"], "choice": ["a", "int", "abc"],
            "clause": ["needs", "excludes", "either"],
        }
        pool = sorted({word for words in fitting.values() for word in words} | {"", "--", "A", "00"})
        for _ in range(3000):
            rows = [[source.choice(["option", "words", "needs", ""])] + source.choices(pool, k=source.randint(0, 6))
                    for _ in range(source.randint(1, 4))]
            expected = self.place_by_search(rows, fitting)
            text = "\n".join(" ".join(words) for words in rows)
            if expected is None:
                self.assertNotEqual(self.outcome(text), NotationError)
            else:
                self.check(text, *expected)

    def outcome(self, text):
        try:
            parse_grammar(text)
        except (NotationError, InvalidGrammar) as error:
            return type(error)
        return None

    def place_by_search(self, rows, fitting):
        is_behind = False
        for row, words in enumerate(rows):
            places = ["clause", "name", "name"] if is_behind else ["option", "name", "short", "kind"]
            if not is_behind and words[0] == "words":
                places, is_behind = ["words", "integer", "integer"], True
            elif not is_behind and words[3:4] in (["int"], ["choice"]):
                places += ["integer"] * 2 if words[3] == "int" else ["choice"] * max(1, len(words) - 4)
            for column, word in enumerate(words):
                if column == len(places) or not self.fits(places[column], word, fitting):
                    return (row, column)
            if len(words) < len(places):
                return (row, len(words))
        return None if is_behind else (len(rows), 0)

    def fits(self, place, word, fitting):
        if place in ("name", "choice"):
            return word.islower() and (place == "name" or "-" not in word)
        if place == "short":
            return word == "-" or word.islower() and len(word) == 1
        return word in fitting[place]


class InvalidGrammarTest(unittest.TestCase):
    def check(self, text, part, index):
        with self.subTest(text):
            check_error(self, InvalidGrammar(part, index), parse_grammar, text)

    def test_options(self):
        self.check("words 0 0", "options", 0)
        self.check("option a - flag\noption a b word\nwords 0 0", "options", 1)
        self.check("option a b flag\noption c b word\nwords 0 0", "options", 1)
        self.check("option a - int 1 0\nwords 0 0", "options", 0)
        self.check("option a - int 9999 -9999\nwords 0 0", "options", 0)
        self.check("option a - flag\noption b - choice x y x\nwords 0 0", "options", 1)
        self.check("option a - choice a b c d e f g h i\nwords 0 0", "options", 0)
        rows = [f"option {letter} - flag" for letter in "abcdefghijklm"]
        self.check("\n".join([*rows, "words 0 0"]), "options", 12)

    def test_positionals(self):
        for minimum in ("-1", "10", "-9999", "9999"):
            self.check(f"option a - flag\nwords {minimum} 9", "positionals", 0)
        for maximum in ("2", "-1", "10", "9999", "0"):
            self.check(f"option a - flag\nwords 3 {maximum}", "positionals", 1)

    def test_clauses(self):
        self.check("option a - flag\nwords 0 0\nneeds a b", "clauses", 0)
        self.check("option a - flag\nwords 0 0\nneeds a a\nexcludes b a", "clauses", 1)
        self.check("option a - flag\nwords 0 0" + "\nneeds a a" * 61, "clauses", 60)
        self.assertEqual(len(parse_grammar("option a - flag\nwords 0 0" + "\nneeds a a" * 60)[2]), 60)

    def test_order(self):
        self.check("option a - flag\noption a - flag\nwords 5 1\nneeds x y", "options", 1)
        self.check("option a - flag\nwords 5 1\nneeds x y", "positionals", 1)

    def test_values_of_grammars_are_no_texts(self):
        check_invalid_grammars(self, format_grammar)
        self.assertEqual(format_grammar(grammar_of("a b", "either a b")),
                         "option a - flag\noption b - flag\nwords 0 0\neither a b")


if __name__ == "__main__":
    unittest.main()
