"""flagclause/lexer.py: points 1, 12 and 13."""

import itertools
import random
import unittest

from flagclause import lexer
from flagclause.errors import InvalidToken, LineError
from flagclause.lexer import join_line, quote, split_line
from tests.helper import (
    INVALID_CHARACTERS, NO_LISTS, NO_TOKENS, VALID_CHARACTERS, check_defined_in, check_error, error_of,
    tokens_by_search,
)

# One ordinary character and all others.
FEW_CHARACTERS = "a '\"\\"


def texts_up_to(length, characters=FEW_CHARACTERS):
    for size in range(length + 1):
        for text in itertools.product(characters, repeat=size):
            yield "".join(text)


def random_texts(seed, count, most, characters):
    source = random.Random(seed)
    return ["".join(source.choices(characters, k=source.randint(0, most))) for _ in range(count)]


class FileTest(unittest.TestCase):
    def test_defined_here(self):
        check_defined_in(self, lexer, split_line, quote, join_line)


class SplitLineTest(unittest.TestCase):
    def check(self, line, *tokens):
        with self.subTest(line):
            found = split_line(line)
            self.assertIs(type(found), list)
            self.assertEqual(found, list(tokens))

    def test_example(self):
        self.assertEqual(split_line("a  'b c' d\\ e"), ['a', 'b c', 'd e'])

    def test_blanks(self):
        self.check("")
        self.check(" ")
        self.check(" " * 200)
        self.check("a", "a")
        self.check("  a", "a")
        self.check("a  ", "a")
        self.check(" a   b c ", "a", "b", "c")

    def test_parts(self):
        self.check("a'b'\"c\"\\d", "abcd")
        self.check("'a''b'", "ab")
        self.check("'a' 'b'", "a", "b")
        self.check("\"a\"'b'c \\ 'd e'", "abc", " d e")
        self.check("a' 'b\" \"c\\ d", "a b c d")

    def test_every_other_character_stands_for_itself(self):
        for character in VALID_CHARACTERS:
            if character not in " '\"\\":
                self.check(character, character)
                self.check(f" b{character}c ", f"b{character}c")

    def test_quotation_marks_within_the_other_ones(self):
        self.check("'\"'", "\"")
        self.check("\"'\"", "'")
        self.check("'a \" b' \"c ' d\"", "a \" b", "c ' d")
        self.check("'\"\"' \"''\"", "\"\"", "''")

    def test_backslash_outside(self):
        for character in VALID_CHARACTERS:
            self.check("\\" + character, character)
            self.check(f"a\\{character}b c", f"a{character}b", "c")

    def test_backslash_within_single_quotation_marks(self):
        for character in VALID_CHARACTERS.replace("'", ""):
            self.check(f"'\\{character}'", "\\" + character)
        self.check("'\\'", "\\")
        self.check("'a\\' b", "a\\", "b")
        self.check("'\\\\'", "\\\\")

    def test_backslash_within_double_quotation_marks(self):
        for character in VALID_CHARACTERS:
            self.check(f"\"\\{character}\"", character)
            self.check(f"\"a\\{character}b\" c", f"a{character}b", "c")
        self.check("\"\\\\\"", "\\")
        self.check("\"\\\"\\\"\"", "\"\"")

    def test_empty_tokens(self):
        self.check("''", "")
        self.check("\"\"", "")
        self.check("'' \"\"  ''", "", "", "")
        self.check("''\"\"''", "")
        self.check("a'' ''b", "a", "b")

    def test_longest_line(self):
        self.check("a" * 200, "a" * 200)
        self.check("a " * 100, *["a"] * 100)
        self.check(" " * 199 + "a", "a")
        self.check("'" + " " * 198 + "'", " " * 198)

    def test_every_short_line(self):
        for line in texts_up_to(6):
            expected = tokens_by_search(line)
            if isinstance(expected, list):
                self.assertEqual(split_line(line), expected)
            else:
                self.assertEqual(vars(error_of(split_line, line)), {"index": expected}, line)

    def test_returned_list_belongs_to_the_caller(self):
        for _ in range(2):
            found = split_line("a 'b'")
            self.assertEqual(found, ["a", "b"])
            found.append("c")


class LineErrorTest(unittest.TestCase):
    def check(self, line, index):
        with self.subTest(line):
            check_error(self, LineError(index), split_line, line)

    def test_example(self):
        self.check("a 'b", 2)

    def test_characters(self):
        for character in INVALID_CHARACTERS:
            self.check(character, 0)
            self.check(f"{character} a", 0)
            self.check(f"ab{character}c{character}", 2)
            self.check(f"'{character}'", 1)
            self.check(f"\"a\\{character}\"", 3)
            self.check("\\" + character, 1)
            self.check("a" * 199 + character, 199)
            self.check("a" * 200 + character, 200)
            self.check("a" * 300 + character, 200)
            self.check("a" * 150 + character + "a" * 150, 150)

    def test_only_such_characters(self):
        for code in [*range(0x300), 0x2028, 0xff21, 0x1f600]:
            if chr(code) not in VALID_CHARACTERS:
                self.check("a" + chr(code), 1)

    def test_length(self):
        for length in (201, 202, 500):
            self.check("a" * length, 200)
            self.check(" " * length, 200)

    def test_not_a_string(self):
        for line in (None, True, False, 0, 5, (), ("a",), [], ["a"], [["a"]], {}):
            self.check(line, 0)

    def test_open_quotation_marks(self):
        for mark in "'\"":
            self.check(mark, 0)
            self.check("a " + mark, 2)
            self.check(f"a{mark}b c", 1)
            self.check(f"{mark}a{mark}{mark}", 3)
            self.check(mark + mark + " a " + mark + " b", 5)
        self.check("'\"", 0)
        self.check("\"'", 0)
        self.check("'a'\"b'", 3)
        self.check("a" * 199 + "'", 199)

    def test_backslash_at_the_end(self):
        self.check("\\", 0)
        self.check("a\\", 1)
        self.check("a \\", 2)
        self.check("\\\\\\", 2)
        self.check("'a'\\", 3)
        self.check("a" * 199 + "\\", 199)

    def test_backslash_at_the_end_within_quotation_marks(self):
        self.check("a \"\\", 2)
        self.check("\"b\\", 0)
        self.check("\"b\\\"", 0)
        self.check("\"b\\\\\\\"", 0)
        self.check("'b\\", 0)

    def test_characters_come_before_the_rest(self):
        self.check("'a%", 2)
        self.check("'a' \"%", 5)
        self.check("%\\", 0)
        self.check("'" + "a" * 200, 200)
        self.check("'" * 201, 200)
        self.check("a" * 200 + "\\", 200)

    def test_first_open_part_counts(self):
        self.check("'a \\", 0)
        self.check("\"a ' \\", 0)
        self.check("a \"'\" '\\", 6)


class QuoteTest(unittest.TestCase):
    def test_examples(self):
        self.assertEqual(quote("a b"), 'a\\ b')
        self.assertEqual(quote(""), '""')

    def test_against_all_ways_to_write_a_token(self):
        best = {}
        for text in texts_up_to(7):
            tokens = tokens_by_search(text)
            if isinstance(tokens, list) and len(tokens) == 1:
                best.setdefault(tokens[0], text)
                best[tokens[0]] = min(best[tokens[0]], text, key=lambda way: (len(way), way))
        self.assertGreater(len(best), 2000)
        for token, text in best.items():
            self.assertEqual(quote(token), text, token)

    def test_tokens(self):
        for token, text in (
            ("a", "a"), ("--key=x", "--key=x"), ("-", "-"), ("$(a;b)", "$(a;b)"),
            (" ", "\\ "), ("'", "\\'"), ("\"", "\\\""), ("\\", "\\\\"),
            ("  ", "\"  \""), ("''", "\"''\""), ("\"\"", "'\"\"'"), ("\\\\", "'\\\\'"),
            ("   ", "\"   \""), ("\\\\\\", "'\\\\\\'"), ("\"\"\"", "'\"\"\"'"), ("'''", "\"'''\""),
            ("a  b", "\"a  \"b"), ("it's", "it\\'s"), ("it's so", "\"it's \"so"), ("a ab", "a\\ ab"), ("  a", "\"  \"a"),
            ("' \"", "\"' \"\\\""), ("'' \"\"", "\"'' \"'\"\"'"),
        ):
            with self.subTest(token):
                self.assertEqual(quote(token), text)
                self.assertEqual(split_line(text), [token])

    def test_every_other_character(self):
        for character in VALID_CHARACTERS:
            if character not in " '\"\\":
                self.assertEqual(quote(character * 3), character * 3)
                self.assertEqual(quote(f" {character} "), f"\" {character} \"")
                self.assertEqual(quote(f"\"{character}\""), f"'\"{character}\"'")

    def test_longest_tokens(self):
        for token, length in (("a" * 200, 200), (" " * 200, 202), ("a " * 100, 202), ("'\" " * 66, 266),
                              (" " + "a" * 199, 201), ("a" * 198 + "  ", 202), ("\\'" * 100, 302)):
            with self.subTest(token):
                self.assertEqual(tokens_by_search(quote(token)), [token])
                self.assertEqual(len(quote(token)), length)

    def test_the_line_read_again(self):
        for token in random_texts(3, 300, 200, VALID_CHARACTERS) + random_texts(4, 300, 200, FEW_CHARACTERS):
            self.assertEqual(tokens_by_search(quote(token)), [token])

    def test_invalid_tokens(self):
        for token in NO_TOKENS:
            with self.subTest(token):
                check_error(self, InvalidToken(0), quote, token)

    def test_valid_characters(self):
        for character in VALID_CHARACTERS:
            self.assertEqual(split_line(quote(character)), [character])


class JoinLineTest(unittest.TestCase):
    def test_example(self):
        self.assertEqual(join_line(["a b", "c"]), 'a\\ b c')

    def test_list_and_tuple(self):
        for tokens, line in ((["a"], "a"), ([], ""), (["", "", "a"], "\"\" \"\" a"), (["--", " ", "'"], "-- \\  \\'")):
            self.assertEqual(join_line(tokens), line)
            self.assertEqual(join_line(tuple(tokens)), line)

    def test_the_line_split_again(self):
        source = random.Random(8)
        for _ in range(300):
            tokens = ["".join(source.choices(FEW_CHARACTERS, k=source.randint(0, 9))) for _ in range(source.randint(0, 9))]
            line = join_line(tokens)
            self.assertEqual(split_line(line), tokens)
            self.assertEqual(line, " ".join(quote(token) for token in tokens))

    def test_longest_result(self):
        self.assertEqual(join_line(["a" * 200]), "a" * 200)
        self.assertEqual(join_line(["a" * 99, "b" * 100]), "a" * 99 + " " + "b" * 100)
        self.assertEqual(join_line(["a" * 197, " "]), "a" * 197 + " \\ ")
        self.assertEqual(len(join_line([" " * 198])), 200)

    def test_result_that_is_too_long(self):
        for tokens in (["a" * 100, "b" * 100], ["a" * 200, ""], [" " * 199], ["a" * 198, " "], ["a" * 200] * 5,
                       ["a"] * 101, ("a" * 199, "b")):
            check_error(self, LineError(200), join_line, tokens)

    def test_invalid_items(self):
        for token in NO_TOKENS:
            with self.subTest(token):
                check_error(self, InvalidToken(0), join_line, [token])
                check_error(self, InvalidToken(0), join_line, (token, "%"))
                check_error(self, InvalidToken(2), join_line, ["a", "", token, None])
                check_error(self, InvalidToken(1), join_line, ("a", token))

    def test_not_a_list_or_tuple(self):
        for tokens in NO_LISTS:
            with self.subTest(tokens):
                check_error(self, InvalidToken(0), join_line, tokens)

    def test_invalid_items_come_before_the_length(self):
        check_error(self, InvalidToken(3), join_line, ["a" * 200, "b", "c", "%"])


if __name__ == "__main__":
    unittest.main()
