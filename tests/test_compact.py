"""flagclause/lines.py: points 1 and 18."""

import copy
import functools
import itertools
import random
import unittest

from flagclause.errors import InvalidArguments
from flagclause.lexer import quote
from flagclause.lines import compact
from tests.helper import (
    LINE_EXAMPLE, NO_LISTS, NO_TOKENS, check_error, check_invalid_grammars, flags, reading_by_search, tokens_by_search,
)

WORD = ("word",)
quoted = functools.lru_cache(maxsize=None)(quote)

# Options without a value, with and without short names, and with every kind of value.
MIXED = (
    (
        ("flag", "f", None),
        ("force", "g", None),
        ("plain", "", None),
        ("plane", "", None),
        ("name", "n", WORD),
        ("note", "", WORD),
        ("level", "l", ("int", -99, 99)),
        ("limit", "", ("int", -9999, 9999)),
        ("mode", "m", ("choice", ("fast", "full", "slow", "fas"))),
        ("more", "", ("choice", ("a", "ab", "abc"))),
    ),
    (0, 9),
    (("excludes", "flag", "name"), ("excludes", "plain", "plain")),
)


def one_option(kind, name="a", short_name=""):
    return (((name, short_name, kind),), (0, 2), ())


def readings_of_all_lines(grammar, characters, most):
    """Return a dict from options and positional words to the shortest length of a line that gives these."""
    found = {}
    for size in range(most + 1):
        for line in map("".join, itertools.product(characters, repeat=size)):
            tokens = tokens_by_search(line)
            reading = reading_by_search(grammar, tokens) if isinstance(tokens, list) else (0, "")
            if len(reading) == 4 and reading[2] is None and len(reading[1]) >= grammar[1][0]:
                found.setdefault((tuple(sorted(reading[0].items())), tuple(reading[1])), size)
    return found


def partitions(items):
    """Return all ways to divide items into groups."""
    if not items:
        return [[]]
    found = []
    for rest in partitions(items[1:]):
        found.append([[items[0]], *rest])
        for place in range(len(rest)):
            found.append([*rest[:place], [items[0], *rest[place]], *rest[place + 1:]])
    return found


def token_lists(grammar, assignments):
    """Return all ways to give options with values that have one text, in lists of tokens."""
    names = [option[0] for option in grammar[0]]
    shorts = {option[0]: option[1] for option in grammar[0]}
    singles = [name for name, value in assignments.items() if value is True]
    valued = [name for name, value in assignments.items() if value is not True]

    def long_name(name):
        sizes = range(1, len(name) + 1)
        return next(name[:size] for size in sizes
                    if size == len(name) or [other for other in names if other.startswith(name[:size])] == [name])

    def ways(name, letters):
        text, ending = str(assignments[name]), f"-{letters}{shorts[name]}"
        if shorts[name]:
            yield [ending, text]
            if text:
                yield [ending + text]
        if not letters:
            yield ["--" + long_name(name), text]
            yield [f"--{long_name(name)}={text}"]

    found = []
    for groups in partitions([name for name in singles if shorts[name]]):
        bundles = ["".join(shorts[name] for name in group) for group in groups]
        for hosts in itertools.product([None, *valued], repeat=len(bundles)):
            used = [host for host in hosts if host]
            if len(set(used)) == len(used):
                rest = ["-" + bundle for bundle, host in zip(bundles, hosts) if not host]
                rest += ["--" + long_name(name) for name in singles if not shorts[name]]
                letters = dict(zip(hosts, bundles))
                for parts in itertools.product(*[list(ways(name, letters.get(name, ""))) for name in valued]):
                    found.append(sum(parts, rest))
    return [tokens for tokens in found if all(len(token) <= 200 for token in tokens)]


class CompactCase(unittest.TestCase):
    def read(self, grammar, assignments, words):
        """Check that a line is read as these options and words, and return it."""
        before = copy.deepcopy((grammar, assignments, words))
        line = compact(grammar, assignments, words)
        self.assertEqual(repr((grammar, assignments, words)), repr(before))
        self.assertIs(type(line), str)
        tokens = tokens_by_search(line)
        self.assertLessEqual(max(map(len, tokens), default=0), 200)
        given, found, pending, _ = reading_by_search(grammar, tokens)
        self.assertEqual(sorted(map(repr, given.items())), sorted(map(repr, assignments.items())))
        self.assertEqual((found, pending), (words, None))
        return line

    def lengths(self, grammar, characters, most, least_found):
        found = readings_of_all_lines(grammar, characters, most)
        self.assertGreater(len(found), least_found)
        for (assignments, words), length in found.items():
            line = self.read(grammar, dict(assignments), list(words))
            # It may be shorter by characters that were not searched.
            self.assertLessEqual(len(line), length, line)
            if set(line) <= set(characters):
                self.assertEqual(len(line), length, line)


class ShortestTest(CompactCase):
    def test_example(self):
        self.assertEqual(compact(LINE_EXAMPLE, {"sign": True, "level": 7}, ["-x"]), '-sl7 -- -x')

    def test_against_all_lines_with_bundles(self):
        grammar = ((("a", "a", None), ("b", "b", None), ("c", "c", None), ("ab", "", None)), (0, 2), ())
        self.lengths(grammar, "-abc ", 7, 100)

    def test_against_all_lines_with_words(self):
        self.lengths((flags("a", "aa"), (0, 3), ()), "-a '\"", 6, 500)
        self.lengths((flags("a"), (0, 2), ()), "-a \"\\", 6, 500)
        self.lengths((flags("a"), (1, 9), ()), "-a \"5", 6, 500)

    def test_against_all_lines_with_values(self):
        self.lengths(((("a", "b", WORD), ("ba", "", None)), (0, 1), ()), "-ab= \"", 6, 500)
        self.lengths(((("a", "", WORD), ("b", "b", None)), (0, 1), ()), "-ab= \"", 6, 100)
        self.lengths(((("a", "a", WORD), ("b", "b", WORD)), (0, 0), ()), "-ab \"", 7, 500)
        self.lengths(((("a", "", WORD), ("aa", "", WORD)), (0, 0), ()), "-a= \"", 6, 15)
        self.lengths(((("ab", "a", WORD), ("b", "b", None), ("ac", "", None)), (0, 0), ()), "-ab =\"", 6, 100)

    def test_against_all_lines_with_integers_and_choices(self):
        grammar = ((("a", "a", ("int", -11, 11)), ("b", "b", None)), (0, 1), ())
        self.lengths(grammar, "-ab1 ", 7, 100)
        grammar = ((("a", "b", ("choice", ("a", "ab", "b"))), ("b", "", ("choice", ("aa", "ab")))), (0, 1), ())
        self.lengths(grammar, "-ab =", 7, 50)

    def test_against_all_lines_with_an_empty_value_in_a_bundle(self):
        self.lengths(((("a", "k", WORD), ("b", "s", None)), (0, 0), ()), "-aks=\"", 6, 20)
        self.lengths(((("ab", "k", WORD), ("ac", "s", None)), (0, 0), ()), "-ks \"", 7, 100)
        self.lengths(((("a", "k", WORD), ("b", "s", WORD)), (0, 0), ()), "-ks \"", 7, 100)

    def test_against_all_lists_of_tokens(self):
        source = random.Random(18)
        texts = ["", "", "x", "a b", "-", "--", "'", "= \"", "v" * 195, "v" * 196, "v" * 197, "v" * 198, "v" * 199,
                 "v" * 200, "v " * 98, " " * 197, "'\"" * 99]
        for _ in range(2000):
            names = source.sample(["a", "b", "c", "da", "db", "dac", "e", "ea"], source.randint(1, 5))
            letters = source.sample("pqrstuv", len(names))
            options = tuple(
                (name, source.choice(["", letter, letter, letter]), source.choice([None, WORD]))
                for name, letter in zip(names, letters)
            )
            assignments = {
                name: True if kind is None else source.choice(texts)
                for name, _, kind in source.sample(options, len(options)) if source.random() < 0.9
            }
            grammar = (options, (0, 0), ())
            expected = min(
                len(" ".join(quoted(token) for token in tokens))
                for tokens in token_lists(grammar, assignments)
            )
            self.assertEqual(len(self.read(grammar, assignments, [])), expected, (grammar, assignments))


class LineTest(CompactCase):
    def check(self, grammar, assignments, words, line):
        """Check the line, or one of the same length."""
        with self.subTest(line):
            items = list(assignments.items())
            for ordered in (items, items[::-1]):
                self.assertEqual(len(self.read(grammar, dict(ordered), words)), len(line))

    def test_nothing(self):
        self.assertEqual(compact(MIXED, {}, []), "")

    def test_options_without_values(self):
        self.check(MIXED, {"flag": True}, [], "-f")
        self.check(MIXED, {"force": True, "flag": True}, [], "-fg")
        self.check(MIXED, {"plain": True}, [], "--plai")
        self.check(MIXED, {"plain": True, "plane": True, "flag": True}, [], "--plai --plan -f")
        self.check((flags("a", "ab", "abc"), (0, 0), ()), {"abc": True, "a": True, "ab": True}, [], "--a --ab --abc")
        self.check((flags("d-ef"), (0, 0), ()), {"d-ef": True}, [], "--d")
        self.check((flags("d-e", "d-f", "d"), (0, 0), ()), {"d-e": True}, [], "--d-e")

    def test_values_in_bundles(self):
        self.check(MIXED, {"name": "x"}, [], "-nx")
        self.check(MIXED, {"flag": True, "name": "x", "force": True}, [], "-fgnx")
        self.check(MIXED, {"flag": True, "name": "x", "level": 5}, [], "-fnx -l5")
        self.check(MIXED, {"name": "a b"}, [], "-na\\ b")
        self.check(MIXED, {"name": "a b c"}, [], "-n'a b c'")
        self.check(MIXED, {"name": "=x"}, [], "-n=x")
        self.check(MIXED, {"name": "--"}, [], "-n--")
        self.check(MIXED, {"name": "-x"}, [], "-n-x")

    def test_values_of_long_options(self):
        self.check(MIXED, {"note": "x"}, [], "--no=x")
        self.check(MIXED, {"note": "--"}, [], "--no --")
        self.check(MIXED, {"note": "a b"}, [], "--no=a\\ b")
        self.check(MIXED, {"note": ""}, [], "--no=")
        self.check(MIXED, {"note": "", "flag": True}, [], "--no= -f")

    def test_integers(self):
        self.check(MIXED, {"level": -5}, [], "-l-5")
        self.check(MIXED, {"level": 0, "limit": -9999}, [], "-l0 --li=-9999")
        self.check(MIXED, {"limit": 9999}, ["-5"], "--li=9999 -5")

    def test_choices(self):
        self.check(MIXED, {"mode": "slow"}, [], "-ms")
        self.check(MIXED, {"mode": "full", "flag": True}, [], "-fmfu")
        self.check(MIXED, {"mode": "fas"}, [], "-mfas")
        self.check(MIXED, {"mode": "fast"}, [], "-mfast")
        self.check(MIXED, {"more": "ab"}, [], "--mor=ab")
        self.check(MIXED, {"more": "a"}, [], "--mor=a")

    def test_empty_values(self):
        self.check(MIXED, {"name": ""}, [], "-n \"\"")
        self.check(MIXED, {"name": "", "flag": True}, [], "-fn \"\"")
        one = ((("k", "k", WORD), ("s", "s", None), ("t", "t", None), ("v", "v", WORD)), (0, 0), ())
        self.check(one, {"k": ""}, [], "--k=")
        self.check(one, {"k": "", "s": True}, [], "-sk \"\"")
        self.check(one, {"k": "", "s": True, "t": True}, [], "-stk \"\"")
        self.check(one, {"k": "", "s": True, "v": "x"}, [], "--k= -svx")
        self.check(one, {"k": "", "v": ""}, [], "--k= --v=")
        self.check(one, {"k": "", "v": "", "t": True}, [], "--k= -tv \"\"")
        self.check(one, {"k": "", "s": True, "v": "x" * 198}, [], "--k= -sv " + "x" * 198)
        self.check(one, {"k": "", "v": "x" * 199}, [], "--k= -v " + "x" * 199)
        two = ((("ka", "k", WORD), ("kb", "", None), ("s", "s", None)), (0, 0), ())
        self.check(two, {"ka": ""}, [], "--ka=")
        self.check(two, {"ka": "", "s": True}, [], "-sk \"\"")

    def test_words(self):
        self.check(MIXED, {}, ["a", "b"], "a b")
        self.check(MIXED, {}, ["", "a b", "'", "\"'\" "], "\"\" a\\ b \\' \"\\\"'\\\" \"")
        self.check(MIXED, {"flag": True}, ["", "-", "-5", "-A", "-="], "-f \"\" - -5 -A -=")
        self.check(MIXED, {}, list("abcdefghi"), "a b c d e f g h i")

    def test_separator_only_where_it_is_needed(self):
        self.check(MIXED, {}, ["--"], "-- --")
        self.check(MIXED, {}, ["-x"], "-- -x")
        self.check(MIXED, {}, ["--x"], "-- --x")
        self.check(MIXED, {}, ["--="], "-- --=")
        self.check(MIXED, {}, ["a", "-x", "b"], "a -- -x b")
        self.check(MIXED, {"flag": True, "name": "x"}, ["--flag", "a"], "-fnx -- --flag a")
        self.check(MIXED, {"name": "--"}, ["-"], "-n-- -")
        self.check(MIXED, {"flag": True}, ["-5", "--"], "-f -- -5 --")
        self.check(MIXED, {}, ["-x y"], "-- -x\\ y")

    def test_all_options(self):
        assignments = {"flag": True, "force": True, "plain": True, "plane": True, "name": "", "note": "a", "level": -99,
                       "limit": 5, "mode": "fast", "more": "abc"}
        self.check(MIXED, assignments, ["-a", ""],
                   "--plai --plan -n \"\" --no=a -fgl-99 --li=5 -mfast --mor=abc -- -a \"\"")

    def test_more_than_200_characters(self):
        self.check(MIXED, {}, ["a" * 200] * 9, " ".join(["a" * 200] * 9))
        self.check(MIXED, {"flag": True}, [" " * 200, "-" + "x" * 199], "-f -- '" + " " * 200 + "' -" + "x" * 199)

    def test_no_token_has_more_than_200_characters(self):
        for size, line in ((196, "-fgn{}"), (197, "-fgn{}"), (198, "-fgn {}"), (199, "-fgn {}"), (200, "-fgn {}")):
            text = "v" * size
            self.check(MIXED, {"flag": True, "force": True, "name": text}, [],
                       line.format(text) if size != 197 else "-fgn " + text)
        for size, line in ((197, "-fn{}"), (198, "-fn {}"), (199, "-fn {}")):
            self.check(MIXED, {"flag": True, "name": "v" * size}, [], line.format("v" * size))
        for size, line in ((198, "-n{}"), (199, "-n {}"), (200, "-n {}")):
            self.check(MIXED, {"name": "v" * size}, [], line.format("v" * size))
        for size in (195, 196, 200):
            self.check(MIXED, {"note": "v" * size}, [], "--no " + "v" * size)
        self.check(MIXED, {"name": " " * 198}, [], "-n'" + " " * 198 + "'")
        self.check(MIXED, {"name": " " * 199}, [], "-n '" + " " * 199 + "'")

    def test_letters_in_several_bundles(self):
        options = tuple((name, name, WORD if name in "xy" else None) for name in "abcxy")
        grammar = (options, (0, 0), ())
        full, most, much = "v" * 198, "v" * 197, "v" * 196
        given = {"a": True, "b": True, "c": True}
        self.check(grammar, {"a": True, "b": True, "x": most, "y": most}, [], f"-ax{most} -by{most}")
        self.check(grammar, {**given, "x": most, "y": much}, [], f"-ax{most} -bcy{much}")
        self.check(grammar, {**given, "x": most, "y": most}, [], f"-abcx {most} -y{most}")
        self.check(grammar, {**given, "x": full, "y": full}, [], f"-abcx {full} -y{full}")
        self.check(grammar, {**given, "x": full, "y": "z"}, [], f"-x{full} -abcyz")

    def test_clauses_are_not_checked(self):
        self.check(MIXED, {"flag": True, "name": "x", "plain": True}, [], "-fnx --plai")
        contrary = (flags("a"), (0, 0), (("either", "a", "a"), ("excludes", "a", "a")))
        self.check(contrary, {}, [], "")
        self.check(contrary, {"a": True}, [], "--a")

    def test_arguments_are_not_kept(self):
        assignments, words = {"flag": True}, ["a"]
        self.assertEqual(compact(MIXED, assignments, words), "-f a")
        assignments["force"] = True
        words.append("b")
        self.assertEqual(len(compact(MIXED, assignments, words)), len("-fg a b"))
        self.assertEqual(compact(MIXED, {"flag": True}, ["a"]), "-f a")


class ErrorsTest(unittest.TestCase):
    def check(self, name, assignments, words, grammar=LINE_EXAMPLE):
        with self.subTest((assignments, words)):
            check_error(self, InvalidArguments(name), compact, grammar, assignments, words)

    def test_example(self):
        self.check("level", {"level": 70}, [])

    def test_not_a_dict(self):
        for assignments in (None, True, 0, "", "sign", (), [], ["sign"], [("sign", True)], (("sign", True),)):
            self.check("", assignments, [])
            self.check("", assignments, None)

    def test_unknown_options(self):
        for name in ("", "s", "sig", "signs", "SIGN", "--sign", None, True, 0, 1, (), ("sign",), ("sign", True)):
            self.check(name, {name: True}, [])
            self.check(name, {"sign": True, name: "x", "level": 70}, [])

    def test_invalid_values(self):
        for value in (1, False, None, "", "True", 0, [True], (True,)):
            self.check("sign", {"sign": value}, [])
        for value in (10, -1, True, False, None, "5", "", (5,), [5], 10 ** 5000):
            self.check("level", {"key": "x", "level": value}, [])
        for value in ("fa", "", "f", "FAST", None, True, 0, ("fast",), ["fast"]):
            self.check("mode", {"mode": value, "sign": 5}, [])
        for value in NO_TOKENS:
            self.check("key", {"key": value}, [])

    def test_first_invalid_item(self):
        self.check("level", {"sign": True, "level": 10, "key": None, "x": True}, [])
        self.check("x", {"x": True, "level": 10}, [])
        self.check("key", {"mode": "fast", "key": None, "level": 10}, None)

    def test_not_a_list_of_words(self):
        for words in (*NO_LISTS, (), ("a",)):
            self.check("", {"sign": True}, words)

    def test_invalid_words(self):
        for word in NO_TOKENS:
            self.check("", {}, [word])
            self.check("", {"level": 5}, ["a", word])

    def test_number_of_words(self):
        self.check("", {}, ["a", "b", "c"])
        self.check("", {}, ["a"] * 9)
        self.check("", {}, [], (LINE_EXAMPLE[0], (1, 2), ()))
        self.check("", {}, ["a"], (LINE_EXAMPLE[0], (0, 0), ()))
        self.check("", {}, ["a"] * 3, (LINE_EXAMPLE[0], (4, 4), ()))

    def test_options_come_before_words(self):
        self.check("level", {"level": 70}, ["a", "b", "c"])
        self.check("x", {"x": True}, None)
        self.check("sign", {"sign": 1}, [None])

    def test_invalid_grammar_comes_first(self):
        for assignments in ({}, {"a": True}, {"x": None}, None):
            for words in ([], ["a"], None):
                check_invalid_grammars(self, compact, assignments, words)


if __name__ == "__main__":
    unittest.main()
