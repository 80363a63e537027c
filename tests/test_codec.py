"""flagclause/codec.py: points 1 and 22."""

import random
import unittest

from flagclause import codec
from flagclause.codec import (
    decode_arguments, decode_grammar, encode_arguments, encode_grammar, pack_bytes, unpack_bytes,
)
from flagclause.errors import DecodeError, InvalidArguments, InvalidCount, InvalidGrammar
from tests.helper import (
    EXAMPLE, LINE_EXAMPLE, NO_LISTS, NO_TOKENS, VALID_CHARACTERS, check_defined_in, check_error,
    check_invalid_grammars, error_of, flags, grammar_of, grammars_for_search, large_grammars,
)

# An encoded grammar: each byte with the lowest and the highest one that can stand there.
GRAMMAR = (
    (
        ("a-z", "b", None),
        ("b", "", ("int", -9999, 9999)),
        ("k", "z", ("int", -2, 9)),
        ("m", "", ("choice", ("a", "zb"))),
        ("w", "", ("word",)),
    ),
    (1, 3),
    (("needs", "a-z", "w"), ("excludes", "b", "b"), ("either", "m", "k")),
)
NAME, LETTER, SHORT, COUNT, KIND = (0, 26), (0, 25), (0, 1), (1, 12), (0, 3)
GRAMMAR_BYTES = (
    (71, 71, 71), (5, 1, 12),
    (3, *COUNT), (1, *NAME), (0, *NAME), (26, *NAME), (1, *SHORT), (1, *LETTER), (0, *KIND),
    (1, *COUNT), (2, *NAME), (0, *SHORT), (1, *KIND), (0, 0, 78), (0, 0, 255), (78, 0, 78), (30, 0, 30),
    (1, *COUNT), (11, *NAME), (1, *SHORT), (25, *LETTER), (1, *KIND), (39, 0, 78), (13, 0, 255), (39, 0, 78), (24, 0, 255),
    (1, *COUNT), (13, *NAME), (0, *SHORT), (2, *KIND), (2, 1, 8), (1, *COUNT), (0, *LETTER), (2, *COUNT), (25, *LETTER),
    (1, *LETTER),
    (1, *COUNT), (23, *NAME), (0, *SHORT), (3, *KIND),
    (1, 0, 9), (3, 0, 9), (3, 0, 60),
    (0, 0, 2), (0, 0, 4), (4, 0, 4), (1, 0, 2), (1, 0, 4), (1, 0, 4), (2, 0, 2), (3, 0, 4), (2, 0, 4),
)

# Encoded arguments of this grammar, likewise, but for the range of an option.
ASSIGNMENTS = {"w": "a ~", "m": "zb", "k": -2, "b": 9999, "a-z": True}
WORDS = ["", "!"]
CHARACTER = (0, 93)
ARGUMENTS_BYTES = (
    (76, 76, 76), (5, 0, 5),
    (0, 0, 4),
    (1, 1, 4), (78, 0, 78), (30, 0, 30),
    (2, 2, 4), (39, 0, 78), (13, 0, 255),
    (3, 3, 4), (1, 0, 1),
    (4, 4, 4), (3, 0, 200), (64, *CHARACTER), (0, *CHARACTER), (93, *CHARACTER),
    (2, 1, 3), (0, 0, 200), (1, 0, 200), (1, *CHARACTER),
)


def with_checksum(values):
    return bytes([*values, sum(values) % 251])


def text_of(text, alphabet):
    return [len(text), *[alphabet.index(character) for character in text]]


def encoded_grammar(grammar):
    """Return the bytes of a grammar, made as the document words it."""
    letters = "abcdefghijklmnopqrstuvwxyz"
    values = [71, len(grammar[0])]
    for name, short_name, kind in grammar[0]:
        values += text_of(name, "-" + letters) + text_of(short_name, letters)
        values.append([None, "int", "choice", "word"].index(kind and kind[0]))
        if kind and kind[0] == "int":
            for bound in kind[1:]:
                values += (bound + 9999).to_bytes(2, "big")
        if kind and kind[0] == "choice":
            values.append(len(kind[1]))
            for word in kind[1]:
                values += text_of(word, letters)
    names = [option[0] for option in grammar[0]]
    values += [*grammar[1], len(grammar[2])]
    for word, first, second in grammar[2]:
        values += [["needs", "excludes", "either"].index(word), names.index(first), names.index(second)]
    return with_checksum(values)


class PackTest(unittest.TestCase):
    def test_defined_here(self):
        check_defined_in(self, codec, pack_bytes, unpack_bytes, encode_grammar, decode_grammar, encode_arguments,
                         decode_arguments)

    def test_example(self):
        self.assertEqual(unpack_bytes(pack_bytes([71, 0, 255])), [71, 0, 255])

    def test_both_ways(self):
        for values in ([], [0], [255], [0, 255, 128], list(range(256)), [7] * 1000):
            data = pack_bytes(values)
            self.assertIs(type(data), bytes)
            self.assertEqual(data, bytes(values))
            self.assertIs(type(unpack_bytes(data)), list)
            self.assertEqual(unpack_bytes(data), values)
            self.assertTrue(all(type(value) is int for value in unpack_bytes(data)))

    def test_invalid_items(self):
        for item in (256, -1, 1000, 10 ** 5000, True, False, None, "", "a", "0", (), (1,), [], [1], {}):
            for values in ([item], [1, item, 2], [0, 255, item]):
                with self.subTest(values):
                    check_error(self, InvalidCount(), pack_bytes, values)

    def test_not_a_list(self):
        for values in (*NO_LISTS, (), (1,), (1, 2, 3), 255, 10 ** 5000):
            with self.subTest(values):
                check_error(self, InvalidCount(), pack_bytes, values)

    def test_returned_list_belongs_to_the_caller(self):
        data, values = pack_bytes([1, 2]), [3, 4]
        unpack_bytes(data).append(5)
        self.assertEqual(unpack_bytes(data), [1, 2])
        packed = pack_bytes(values)
        values.append(5)
        self.assertEqual(unpack_bytes(packed), [3, 4])


class EncodeGrammarTest(unittest.TestCase):
    def both(self, grammar, data):
        self.assertEqual(encode_grammar(grammar), data)
        self.assertIs(type(encode_grammar(grammar)), bytes)
        self.assertEqual(repr(decode_grammar(data)), repr(grammar))

    def test_examples(self):
        self.assertEqual(unpack_bytes(encode_grammar(((("a", "", None),), (0, 1), ()))), [71, 1, 1, 1, 0, 0, 0, 1, 0, 75])
        self.assertEqual(decode_grammar(pack_bytes([71, 1, 1, 1, 0, 0, 0, 1, 0, 75])), ((('a', '', None),), (0, 1), ()))
        check_error(self, DecodeError(3), decode_grammar, pack_bytes([71, 1, 1, 27]))

    def test_value_by_value(self):
        self.both(GRAMMAR, with_checksum([byte[0] for byte in GRAMMAR_BYTES]))

    def test_checksum_of_a_large_sum(self):
        grammar = (flags("a", "zzzzzzzzzzzz"), (9, 9), ())
        values = [71, 2, 1, 1, 0, 0, 12, *[26] * 12, 0, 0, 9, 9, 0]
        self.assertGreater(sum(values), 251)
        self.both(grammar, bytes([*values, (71 + 2 + 2 + 12 + 26 * 12 + 18) - 251]))

    def test_bounds(self):
        for bound, pair in ((-9999, [0, 0]), (-9998, [0, 1]), (-9744, [0, 255]), (-9743, [1, 0]), (0, [39, 15]),
                            (9, [39, 24]), (9968, [77, 255]), (9969, [78, 0]), (9999, [78, 30])):
            values = [71, 1, 1, 1, 0, 1, *pair, *pair, 0, 0, 0]
            self.both(((("a", "", ("int", bound, bound)),), (0, 0), ()), with_checksum(values))

    def test_kinds_and_words(self):
        for kind in (None, ("int", -9999, 9999), ("choice", ("a",)), ("choice", ("abcdefghijkl", "z")), ("word",),
                     ("choice", ("zzzzzzzzzzzz", "zzzzzzzzzzzy", "a", "b", "c", "d", "e", "f"))):
            for name, short_name in (("a", ""), ("a", "a"), ("a-b--c", "z"), ("abcdefghijkl", "k"), ("z", "")):
                grammar = (((name, short_name, kind),), (0, 9), (("either", name, name),))
                self.both(grammar, encoded_grammar(grammar))

    def test_most_of_everything(self):
        names = [f"abcdefghi-{first}{second}" for first in "abc" for second in "wxyz"]
        options = tuple((name, letter, ("choice", tuple("hgfedcba"))) for name, letter in zip(names, "abcdefghijkl"))
        clauses = tuple((word, first, second) for word in ("needs", "either") for first in names[:3]
                        for second in names[2:])
        self.assertEqual((len(options), len(clauses)), (12, 60))
        self.both((options, (0, 9), clauses), encoded_grammar((options, (0, 9), clauses)))

    def test_other_grammars(self):
        for grammar in [EXAMPLE, LINE_EXAMPLE, *grammars_for_search(seed=22), *large_grammars(seed=22)]:
            self.both(grammar, encoded_grammar(grammar))

    def test_invalid_grammars(self):
        check_invalid_grammars(self, encode_grammar)


class DecodeCase(unittest.TestCase):
    """Checks of data of which each byte is known with the range that it may have."""

    def offset(self, offset, decode, *arguments):
        check_error(self, DecodeError(offset), decode, *arguments)

    def check_bytes(self, decode, places, offsets_with_ranges=()):
        values = [place[0] for place in places]
        for offset, (_, low, high) in enumerate(places):
            for value in range(256):
                changed = [*values[:offset], value, *values[offset + 1:]]
                if low <= value <= high:
                    # A number that is outside of a range is found at its first byte.
                    if offset not in offsets_with_ranges:
                        self.check_allowed(decode, changed, offset)
                else:
                    # Neither what follows nor the end counts.
                    for data in (with_checksum(changed), bytes(changed[:offset + 1]), bytes(changed) + b"abc"):
                        self.offset(offset, decode, data)

    def check_allowed(self, decode, values, offset):
        """Check that an error, if there is one, is found behind a byte."""
        try:
            decode(with_checksum(values))
        except DecodeError as error:
            self.assertGreater(error.offset, offset)
        except InvalidGrammar:
            pass

    def check_end(self, decode, values):
        data = with_checksum(values)
        for size in range(len(data)):
            self.offset(size, decode, data[:size])
        for value in range(256):
            self.offset(len(data), decode, data + bytes([value]))
            if value != data[-1]:
                self.offset(len(values), decode, bytes([*values, value]))
                self.offset(len(values), decode, bytes([*values, value, value]))
        self.offset(len(data), decode, data + data)


class DecodeGrammarTest(DecodeCase):
    def test_each_byte(self):
        self.check_bytes(decode_grammar, GRAMMAR_BYTES)

    def test_end(self):
        self.check_end(decode_grammar, [byte[0] for byte in GRAMMAR_BYTES])
        self.check_end(decode_grammar, [71, 1, 1, 1, 0, 0, 0, 1, 0])

    def test_nothing(self):
        self.offset(0, decode_grammar, b"")

    def test_integers_above_9999(self):
        start = [71, 1, 1, 1, 0, 1]
        for pair, offset in (([78, 31], 7), ([78, 255], 7), ([79, 0], 6), ([255, 255], 6)):
            self.offset(offset, decode_grammar, with_checksum([*start, *pair, 78, 30, 0, 0, 0]))
            self.offset(offset + 2, decode_grammar, with_checksum([*start, 0, 0, *pair, 0, 0, 0]))
        self.offset(6, decode_grammar, bytes([*start, 79]))
        self.offset(7, decode_grammar, bytes([*start, 78]))

    def test_checksum_is_not_taken_for_another_byte(self):
        self.offset(9, decode_grammar, bytes([71, 1, 1, 1, 0, 0, 0, 1, 0, 75 + 1]))
        values = [71, 2, 1, 1, 0, 0, 12, *[26] * 12, 0, 0, 9, 9, 0]
        self.offset(len(values), decode_grammar, bytes([*values, 0]))
        self.assertEqual(decode_grammar(with_checksum(values))[1], (9, 9))

    def test_invalid_grammars(self):
        a = [1, 1, 0, 0]
        for values, part, index in (
                ([71, 2, *a, *a, 0, 0, 0], "options", 1),
                ([71, 2, 1, 1, 1, 5, 0, 1, 2, 1, 5, 0, 0, 0, 0], "options", 1),
                ([71, 1, 1, 0, 0, 0, 0, 0, 0], "options", 0),
                ([71, 1, 2, 0, 1, 0, 0, 0, 0, 0], "options", 0),
                ([71, 2, *a, 2, 1, 0, 0, 0, 0, 0, 0], "options", 1),
                ([71, 1, 1, 1, 0, 1, 0, 1, 0, 0, 0, 0, 0], "options", 0),
                ([71, 1, 1, 1, 0, 2, 2, 1, 3, 1, 3, 0, 0, 0], "options", 0),
                ([71, 1, *a, 1, 0, 0], "positionals", 1),
                ([71, 1, *a, 9, 8, 0], "positionals", 1),
                ([71, 2, *a, *a, 9, 8, 0], "options", 1),
        ):
            with self.subTest(values):
                check_error(self, InvalidGrammar(part, index), decode_grammar, with_checksum(values))

    def test_offsets_come_before_invalid_grammars(self):
        a = [1, 1, 0, 0]
        self.offset(13, decode_grammar, bytes([71, 2, *a, *a, 9, 8, 0]))
        self.offset(13, decode_grammar, bytes([71, 2, *a, *a, 9, 8, 0, 0]))
        self.offset(12, decode_grammar, bytes([71, 2, *a, *a, 9, 8, 61, 0]))
        self.offset(7, decode_grammar, bytes([71, 1, *a, 9, 10]))

    def test_random_changes(self):
        source = random.Random(220)
        data = encode_grammar(GRAMMAR)
        for _ in range(3000):
            changed = list(data)
            place = source.randrange(len(changed))
            changed[place] = source.randrange(256)
            error = None
            try:
                self.assertEqual(decode_grammar(bytes(changed)), GRAMMAR)
            except DecodeError as found:
                error = found
            self.assertEqual(error is None, changed == list(data))
            if error is not None:
                self.assertGreaterEqual(error.offset, place)


class EncodeArgumentsTest(unittest.TestCase):
    def both(self, grammar, assignments, words, data):
        self.assertEqual(encode_arguments(grammar, assignments, words), data)
        self.assertIs(type(encode_arguments(grammar, assignments, words)), bytes)
        ordered = {option[0]: assignments[option[0]] for option in grammar[0] if option[0] in assignments}
        self.assertEqual(repr(decode_arguments(grammar, data)), repr((ordered, words)))

    def test_examples(self):
        data = encode_arguments(LINE_EXAMPLE, {"level": 7}, ["x"])
        self.assertEqual(unpack_bytes(data), [76, 1, 2, 39, 22, 1, 1, 87, 229])
        data = pack_bytes([76, 1, 2, 39, 22, 1, 1, 87, 229])
        self.assertEqual(decode_arguments(LINE_EXAMPLE, data), ({'level': 7}, ['x']))

    def test_value_by_value(self):
        self.both(GRAMMAR, ASSIGNMENTS, WORDS, with_checksum([byte[0] for byte in ARGUMENTS_BYTES]))

    def test_order_is_that_of_the_grammar(self):
        for names in ("a-z b k m w", "w m k b a-z", "k w a-z m b"):
            assignments = {name: ASSIGNMENTS[name] for name in names.split()}
            self.both(GRAMMAR, assignments, WORDS, encode_arguments(GRAMMAR, ASSIGNMENTS, WORDS))

    def test_nothing(self):
        self.both(LINE_EXAMPLE, {}, [], bytes([76, 0, 0, 76]))

    def test_each_value(self):
        for number in range(10):
            self.both(LINE_EXAMPLE, {"level": number}, [], with_checksum([76, 1, 2, 39, 15 + number, 0]))
        for index, word in enumerate(("fast", "full", "slow")):
            self.both(LINE_EXAMPLE, {"mode": word}, [], with_checksum([76, 1, 3, index, 0]))
        self.both(LINE_EXAMPLE, {"sign": True}, [], with_checksum([76, 1, 0, 0]))
        self.both(LINE_EXAMPLE, {"key": ""}, [], with_checksum([76, 1, 1, 0, 0]))

    def test_characters(self):
        for index, character in enumerate(VALID_CHARACTERS):
            self.both(LINE_EXAMPLE, {"key": character}, [], with_checksum([76, 1, 1, 1, index, 0]))
            self.both(LINE_EXAMPLE, {}, [character], with_checksum([76, 0, 1, 1, index]))
        everything = list(range(94))
        self.both(LINE_EXAMPLE, {"key": VALID_CHARACTERS}, [VALID_CHARACTERS],
                  with_checksum([76, 1, 1, 94, *everything, 1, 94, *everything]))

    def test_longest_words(self):
        grammar = (LINE_EXAMPLE[0], (9, 9), ())
        self.both(grammar, {"key": "~" * 200}, ["~" * 200] * 9,
                  with_checksum([76, 1, 1, 200, *[93] * 200, 9, *[200, *[93] * 200] * 9]))

    def test_all_options_of_a_large_grammar(self):
        for grammar in large_grammars(seed=2):
            names = [option[0] for option in grammar[0]]
            values = [76, 12, *range(12), 0]
            self.both(grammar, dict.fromkeys(reversed(names), True), [], with_checksum(values))

    def test_clauses_are_not_checked(self):
        grammar = grammar_of("a b", "excludes a b", "excludes a a", "either a a")
        self.both(grammar, {"a": True, "b": True}, [], with_checksum([76, 2, 0, 1, 0]))


class EncodeArgumentsErrorsTest(unittest.TestCase):
    def check(self, name, assignments, words, grammar=LINE_EXAMPLE):
        with self.subTest((assignments, words)):
            check_error(self, InvalidArguments(name), encode_arguments, grammar, assignments, words)

    def test_options(self):
        for assignments in (None, True, 0, "", "sign", (), [], [("sign", True)]):
            self.check("", assignments, [])
        for name in ("", "s", "SIGN", None, True, 1, ("sign", True)):
            self.check(name, {"level": 9, name: True, "key": 5}, None)
        self.check("level", {"sign": True, "level": 10, "x": True}, [])
        for name, value in (("sign", 1), ("sign", False), ("level", True), ("level", "5"), ("mode", "fa"), ("key", None)):
            self.check(name, {name: value}, [])
        for token in NO_TOKENS:
            self.check("key", {"key": token}, [token])

    def test_words(self):
        for words in (*NO_LISTS, (), ("a",), ["a"] * 3):
            self.check("", {"sign": True}, words)
        for token in NO_TOKENS:
            self.check("", {}, ["a", token])
        self.check("", {}, [], (LINE_EXAMPLE[0], (1, 2), ()))

    def test_invalid_grammar_comes_first(self):
        for assignments in ({}, {"x": 1}, None):
            for words in ([], None):
                check_invalid_grammars(self, encode_arguments, assignments, words)


class DecodeArgumentsTest(DecodeCase):
    def decode(self, data):
        return decode_arguments(GRAMMAR, data)

    def test_each_byte(self):
        self.check_bytes(self.decode, ARGUMENTS_BYTES, (7, 8))

    def test_end(self):
        self.check_end(self.decode, [byte[0] for byte in ARGUMENTS_BYTES])
        self.check_end(self.decode, [76, 0, 1, 0])
        self.offset(0, self.decode, b"")

    def test_integers_outside_of_the_range(self):
        start = [76, 1, 2]
        for number in (-3, -4, 10, 11, -9999, 9999, 266, -258):
            high, low = divmod(number + 9999, 256)
            for data in (with_checksum([*start, high, low, 1, 0]), bytes([*start, high, low]),
                         bytes([*start, high, low, 255])):
                self.offset(3, self.decode, data)
        for number in range(-2, 10):
            high, low = divmod(number + 9999, 256)
            self.assertEqual(self.decode(with_checksum([*start, high, low, 1, 0])), ({"k": number}, [""]))

    def test_integers_above_9999(self):
        for index in (1, 2):
            for pair, offset in (([78, 31], 4), ([78, 255], 4), ([79, 0], 3), ([255, 0], 3)):
                self.offset(offset, self.decode, with_checksum([76, 1, index, *pair, 1, 0]))
                self.offset(offset, self.decode, bytes([76, 1, index, *pair])[:offset + 1])

    def test_integer_that_is_cut_off(self):
        for high in (0, 39, 78):
            self.offset(4, self.decode, bytes([76, 1, 2, high]))
        self.offset(3, self.decode, bytes([76, 1, 2]))

    def test_order_of_options(self):
        self.offset(3, self.decode, with_checksum([76, 2, 0, 0, 1, 0]))
        self.offset(4, self.decode, with_checksum([76, 2, 3, 0, 0, 1, 0]))
        self.offset(4, self.decode, with_checksum([76, 2, 3, 0, 3, 0, 1, 0]))
        self.offset(4, self.decode, with_checksum([76, 2, 4, 0, 4, 0, 1, 0]))
        self.offset(4, self.decode, with_checksum([76, 2, 4, 0, 5, 0, 1, 0]))
        self.assertEqual(self.decode(with_checksum([76, 2, 0, 4, 0, 1, 0])), ({"a-z": True, "w": ""}, [""]))

    def test_number_of_options(self):
        for count in (6, 7, 12, 255):
            self.offset(1, self.decode, with_checksum([76, count, 0, 1, 0]))
        grammar = (flags("a"), (0, 0), ())
        self.offset(1, decode_arguments, grammar, with_checksum([76, 2, 0, 0, 0]))
        self.assertEqual(decode_arguments(grammar, with_checksum([76, 1, 0, 0])), ({"a": True}, []))

    def test_number_of_words(self):
        for count in (0, 4, 9, 255):
            self.offset(2, self.decode, with_checksum([76, 0, count, *[0] * count]))
        for count in (1, 2, 3):
            self.assertEqual(self.decode(with_checksum([76, 0, count, *[0] * count])), ({}, [""] * count))

    def test_lengths_of_words(self):
        self.assertEqual(self.decode(with_checksum([76, 0, 1, 200, *[1] * 200])), ({}, ["!" * 200]))
        self.offset(3, self.decode, with_checksum([76, 0, 1, 201, *[1] * 201]))
        self.offset(3, self.decode, with_checksum([76, 1, 4, 201, *[1] * 201, 1, 0]))

    def test_another_mark(self):
        self.offset(0, self.decode, encode_grammar(GRAMMAR))
        self.offset(0, decode_grammar, encode_arguments(GRAMMAR, ASSIGNMENTS, WORDS))

    def test_invalid_grammar_comes_first(self):
        for data in (b"", bytes([76, 0, 0, 76]), b"abc"):
            check_invalid_grammars(self, decode_arguments, data)

    def test_random_arguments(self):
        source = random.Random(22)
        for _ in range(300):
            values = {"a-z": True, "b": source.randint(-9999, 9999), "k": source.randint(-2, 9),
                      "m": source.choice(["a", "zb"]), "w": "".join(source.choices(VALID_CHARACTERS, k=source.randint(0, 9)))}
            given = {name: values[name] for name in values if source.random() < 0.6}
            words = ["".join(source.choices(VALID_CHARACTERS, k=source.randint(0, 20))) for _ in range(source.randint(1, 3))]
            self.assertEqual(self.decode(encode_arguments(GRAMMAR, given, words)), (given, words))

    def test_returned_values_belong_to_the_caller(self):
        data = encode_arguments(GRAMMAR, {"a-z": True}, ["x"])
        for _ in range(2):
            given, words = self.decode(data)
            self.assertEqual((given, words), ({"a-z": True}, ["x"]))
            given.clear()
            words.clear()


class KindsTest(unittest.TestCase):
    def test_errors_are_no_other_ones(self):
        self.assertIsInstance(error_of(decode_grammar, b"a"), DecodeError)
        self.assertIsInstance(error_of(pack_bytes, None), InvalidCount)


if __name__ == "__main__":
    unittest.main()
