"""flagclause/lines.py: points 1 and 15 to 17."""

import itertools
import random
import unittest

from flagclause import lines
from flagclause.errors import Conflict, InvalidToken, ParseError, Unsatisfiable, UnmetClause
from flagclause.lines import compact, parse_tokens, read_prefix, suggest
from tests.helper import (
    EXAMPLE, LINE_EXAMPLE, NO_LISTS, NO_TOKENS, accepted_by_search, best_chain, check_defined_in, check_error,
    check_invalid_grammars, flags, is_met, literals, names_in, reading_by_search,
)

WORD = ("word",)

# Names that begin with others, and short names that are none of their letters.
NESTED = (
    (
        ("col", "x", None),
        ("color", "c", ("choice", ("auto", "always", "never"))),
        ("col-a", "", ("int", -20, 20)),
        ("depth", "d", ("int", -20, 20)),
        ("name", "n", WORD),
        ("no-op", "o", None),
        ("z", "z", None),
    ),
    (1, 3),
    (),
)

UNSATISFIABLE = ((*LINE_EXAMPLE[0], ("a", "", None)), (0, 2), (("either", "a", "a"), ("excludes", "a", "a")))

CONFLICT = (
    (("ab", "a", None), ("bc", "b", None), ("cd", "c", ("word",)), ("de", "", ("int", 0, 9)), ("ef", "e", None)),
    (1, 2),
    (("needs", "ab", "bc"), ("excludes", "bc", "cd"), ("needs", "ef", "ef"), ("either", "ab", "ef")),
)


def tokens_of(text):
    """Return the tokens of a text; "." stands for the empty one."""
    return ["" if part == "." else part for part in text.split()]


class FileTest(unittest.TestCase):
    def test_defined_here(self):
        check_defined_in(self, lines, read_prefix, parse_tokens, suggest, compact)


class ReadPrefixTest(unittest.TestCase):
    def check(self, text, given, words="", pending=None, is_separated=False, grammar=NESTED):
        for tokens in (tokens_of(text), tuple(tokens_of(text))):
            with self.subTest(text):
                found = read_prefix(grammar, tokens)
                self.assertEqual(found, (given, tokens_of(words), pending, is_separated))
                # Numbers and booleans may be equal, and the order of a dict counts.
                self.assertEqual(repr(found), repr((given, tokens_of(words), pending, is_separated)))

    def test_example(self):
        self.assertEqual(read_prefix(LINE_EXAMPLE, ["x", "--level"]), ({}, ['x'], 'level', False))

    def test_nothing(self):
        self.check("", {})

    def test_positional_words(self):
        self.check("a b c", {}, "a b c")
        self.check("-", {}, "-")
        self.check("-5 -= -A", {}, "-5 -= -A")
        self.check(". . .", {}, ". . .")
        self.check("-- -", {}, "-", None, True)
        self.check("a=b =", {}, "a=b =")

    def test_names(self):
        self.check("--z", {"z": True})
        self.check("--col", {"col": True})
        self.check("--no-op --name=x", {"no-op": True, "name": "x"})

    def test_beginnings_of_names(self):
        self.check("--no", {"no-op": True})
        self.check("--no-", {"no-op": True})
        self.check("--na=x", {"name": "x"})
        self.check("--d=5", {"depth": 5})
        self.check("--colo=n", {"color": "never"})
        self.check("--col-=5", {"col-a": 5})

    def test_name_that_is_the_beginning_of_others(self):
        self.check("--col --color=auto --col-a=1", {"col": True, "color": "auto", "col-a": 1})

    def test_value_behind_a_sign(self):
        self.check("--name=", {"name": ""})
        self.check("--name==", {"name": "="})
        self.check("--name=a=b", {"name": "a=b"})
        self.check("--name=--", {"name": "--"})
        self.check("--color=au --depth=-20", {"color": "auto", "depth": -20})

    def test_value_in_the_next_token(self):
        self.check("--name x", {"name": "x"})
        self.check("--name .", {"name": ""})
        self.check("--name --", {"name": "--"})
        self.check("--name -- --", {"name": "--"}, "", None, True)
        self.check("--name --z", {"name": "--z"})
        self.check("--name --name", {"name": "--name"})
        self.check("--name -z --z", {"name": "-z", "z": True})
        self.check("--na = --z", {"name": "=", "z": True})
        self.check("--depth -5 -5", {"depth": -5}, "-5")
        self.check("-n -- -d -20 -c alw", {"name": "--", "depth": -20, "color": "always"})

    def test_bundles(self):
        self.check("-x", {"col": True})
        self.check("-xoz", {"col": True, "no-op": True, "z": True})
        self.check("-zox", {"z": True, "no-op": True, "col": True})
        self.check("-z -o -x", {"z": True, "no-op": True, "col": True})

    def test_bundles_with_a_value(self):
        self.check("-nx", {"name": "x"})
        self.check("-zonz", {"z": True, "no-op": True, "name": "z"})
        self.check("-n=x", {"name": "=x"})
        self.check("-n-", {"name": "-"})
        self.check("-zd5", {"z": True, "depth": 5})
        self.check("-zd-5", {"z": True, "depth": -5})
        self.check("-zcne", {"z": True, "color": "never"})

    def test_bundles_with_the_value_in_the_next_token(self):
        self.check("-n x", {"name": "x"})
        self.check("-zon x -x", {"z": True, "no-op": True, "name": "x", "col": True})
        self.check("-zn .", {"z": True, "name": ""})

    def test_order(self):
        self.check("--name a --z --depth=1 --col", {"name": "a", "z": True, "depth": 1, "col": True})
        self.check("-xd 1 a -zn b", {"col": True, "depth": 1, "z": True, "name": "b"}, "a")
        self.check("--depth=1 b -z a -n x", {"depth": 1, "z": True, "name": "x"}, "b a")

    def test_pending_option(self):
        for text in ("--name", "--na", "-n"):
            self.check(text, {}, "", "name")
        self.check("--color", {}, "", "color")
        self.check("-zxn", {"z": True, "col": True}, "", "name")
        self.check("a --depth", {}, "a", "depth")
        self.check("--name -n", {"name": "-n"})

    def test_separator(self):
        self.check("--", {}, "", None, True)
        self.check("-- --", {}, "--", None, True)
        self.check("-- --z -x a", {}, "--z -x a", None, True)
        self.check("-z a -- b --", {"z": True}, "a b --", None, True)
        self.check("-- --name -n --=5", {}, "--name -n --=5", None, True)
        self.check("--name=-- --", {"name": "--"}, "", None, True)

    def test_true_for_options_without_a_value_alone(self):
        found = read_prefix(((("a", "a", None), ("b", "b", ("int", 0, 1))), (0, 0), ()), ["-ab1"])[0]
        self.assertIs(found["a"], True)
        self.assertIs(type(found["b"]), int)

    def test_clauses_are_not_checked(self):
        self.assertEqual(read_prefix(CONFLICT, ["-abcx"])[0], {"ab": True, "bc": True, "cd": "x"})
        self.assertEqual(read_prefix(UNSATISFIABLE, ["--a"])[0], {"a": True})

    def test_longest_tokens(self):
        self.assertEqual(read_prefix(NESTED, ["-n" + "x" * 198])[0], {"name": "x" * 198})
        self.assertEqual(read_prefix(NESTED, ["-n", "x" * 200])[0], {"name": "x" * 200})
        self.assertEqual(read_prefix(NESTED, ["--name=" + " " * 193, "y" * 200])[:2], ({"name": " " * 193}, ["y" * 200]))

    def test_returned_values_belong_to_the_caller(self):
        for _ in range(2):
            given, words, pending, is_separated = read_prefix(NESTED, ["-z", "a", "--name"])
            self.assertEqual((given, words, pending, is_separated), ({"z": True}, ["a"], "name", False))
            given.clear()
            words.append("b")

    def test_against_a_search(self):
        source = random.Random(15)
        pool = tokens_of(
            "-- - . a -5 --z --z= --col --co --colo --color --color=a --color=au --n --na --na= --depth --d=5 --d=x --=5 "
            "-z -x -zo -zn -nz -n -d -d5 -d-5 -zz -z- -z5 -q --q --q= --name=-- auto al 5 -20 21 --no --no-op=1 --col-a"
        )
        kinds = set()
        for _ in range(4000):
            tokens = source.choices(pool, k=source.randint(0, 6))
            expected = reading_by_search(NESTED, tokens)
            if len(expected) == 2:
                check_error(self, ParseError(*expected), read_prefix, NESTED, tokens)
                kinds.add(expected[1])
            else:
                self.assertEqual(repr(read_prefix(NESTED, tokens)), repr(expected), tokens)
                kinds.add(None)
        self.assertEqual(len(kinds), 6)

    def test_every_short_token_against_a_search(self):
        for size in range(6):
            for token in map("".join, itertools.product("-z5=n", repeat=size)):
                expected = reading_by_search(NESTED, [token])
                if len(expected) == 2:
                    check_error(self, ParseError(*expected), read_prefix, NESTED, [token])
                else:
                    self.assertEqual(read_prefix(NESTED, [token]), expected)


class ErrorsCase(unittest.TestCase):
    def parse_error(self, text, index, reason, grammar=NESTED):
        for tokens in (tokens_of(text), tuple(tokens_of(text))):
            for function, rest in ((read_prefix, ()), (parse_tokens, ()), (suggest, ("--",))):
                with self.subTest((function.__name__, text)):
                    check_error(self, ParseError(index, reason), function, grammar, tokens, *rest)


class ParseErrorTest(ErrorsCase):
    def test_unknown(self):
        for text in ("--x", "--zz", "--names", "--N", "--Z", "---", "---z", "--=", "--=5", "--==", "--x=5", "--col-b",
                     "-q", "-zq", "-qz", "-z-", "-z5", "-z=", "-z=5", "-zoxq", "-zZ", "-z.", "--color-", "--no-op-"):
            self.parse_error(text, 0, "unknown")
            self.parse_error(f"a --depth=1 {text} b", 2, "unknown")
        for text in ("--=", "--=5", "--b"):
            self.parse_error(text, 0, "unknown", ((("a", "", WORD),), (0, 0), ()))

    def test_ambiguous(self):
        for text in ("--c", "--co", "--n", "--co=x", "--n=", "--n=x"):
            self.parse_error(text, 0, "ambiguous")
            self.parse_error(f"a {text} --x", 1, "ambiguous")

    def test_repeated(self):
        for text, index in (("--z --z", 1), ("--z -z", 1), ("-z --z", 1), ("-zz", 0), ("-zoz", 0), ("-zo -z", 1),
                            ("--name x --name y", 2), ("--name=x --na=y", 1), ("-nx a -ny", 2), ("-n x --name", 2),
                            ("-n x -n", 2), ("-nx --name", 1), ("--col --col", 1), ("-z a -oz", 2)):
            self.parse_error(text, index, "repeated")

    def test_value(self):
        for text, index in (
                ("--depth=21", 0), ("--depth=-21", 0), ("--depth=", 0), ("--depth=05", 0), ("--depth 21", 1),
                ("--depth .", 1), ("--depth --z", 1), ("--depth --", 1), ("-dx", 0), ("-zd--5", 0),
                ("-d=5", 0), ("-d x", 1), ("--color=a", 0), ("--color=", 0), ("--color x", 1), ("-ca", 0), ("-c a", 1),
                ("-z -x a -cau -dau", 4), ("--z=", 0), ("--z=1", 0), ("--no=x", 0), ("--col==", 0), ("--z=True", 0),
        ):
            self.parse_error(text, index, "value")

    def test_positionals(self):
        self.parse_error("a b c d", 3, "positionals")
        self.parse_error("a b c d e", 3, "positionals")
        self.parse_error("a b -z c -x d", 5, "positionals")
        self.parse_error("-- a b c d", 4, "positionals")
        self.parse_error("a -- b c --", 4, "positionals")
        self.parse_error("a b c -5", 3, "positionals")
        self.parse_error("a b c .", 3, "positionals")
        self.parse_error("x", 0, "positionals", (flags("a"), (0, 0), ()))
        self.parse_error("-", 0, "positionals", (flags("a"), (0, 0), ()))
        self.parse_error("--a -- --a", 2, "positionals", (flags("a"), (0, 0), ()))

    def test_which_reason_comes_first(self):
        self.parse_error("-d5 --depth=x", 1, "repeated")
        self.parse_error("-z --z=5", 1, "repeated")
        self.parse_error("-zz --z=5", 0, "repeated")
        self.parse_error("-d5 -dx", 1, "repeated")
        self.parse_error("--x=", 0, "unknown")
        self.parse_error("-n x --n=y", 2, "ambiguous")

    def test_first_error_counts(self):
        self.parse_error("-zzq", 0, "repeated")
        self.parse_error("-zqz", 0, "unknown")
        self.parse_error("-z -qz", 1, "unknown")
        self.parse_error("-z -zq", 1, "repeated")
        self.parse_error("-z -zdx", 1, "repeated")
        self.parse_error("-qdx", 0, "unknown")
        self.parse_error("-dx --q", 0, "value")
        self.parse_error("--q -dx", 0, "unknown")
        self.parse_error("a b c --q d", 3, "unknown")
        self.parse_error("a b c d --q", 3, "positionals")
        self.parse_error("--co --q --z --z", 0, "ambiguous")


class InvalidTokenTest(ErrorsCase):
    def check(self, tokens, index, grammar=NESTED):
        for function, rest in ((read_prefix, ()), (parse_tokens, ()), (suggest, ("--",)), (suggest, ("",))):
            with self.subTest((function.__name__, tokens)):
                check_error(self, InvalidToken(index), function, grammar, tokens, *rest)

    def test_invalid_items(self):
        for token in NO_TOKENS:
            self.check([token], 0)
            self.check((token, None), 0)
            self.check(["a", "--name", token], 2)
            self.check(("--", token, "%"), 1)

    def test_not_a_list_or_tuple(self):
        for tokens in NO_LISTS:
            self.check(tokens, 0)

    def test_before_the_tokens_are_read(self):
        self.check(["--q", "-zz", "%"], 2)
        self.check(["a", "b", "c", "d", None], 4)
        self.check(["--a", 5], 1, UNSATISFIABLE)
        self.check(["-abcx", "", 5], 2, CONFLICT)

    def test_invalid_grammar_comes_first(self):
        for tokens in ([], ["--q"], ["%"], None, [None]):
            check_invalid_grammars(self, read_prefix, tokens)
            check_invalid_grammars(self, parse_tokens, tokens)
            check_invalid_grammars(self, suggest, tokens, "")


class ParseTokensTest(unittest.TestCase):
    def check(self, grammar, text, given, words):
        for tokens in (tokens_of(text), tuple(tokens_of(text))):
            with self.subTest(text):
                self.assertEqual(repr(parse_tokens(grammar, tokens)), repr((given, tokens_of(words))))

    def error(self, grammar, text, expected):
        for tokens in (tokens_of(text), tuple(tokens_of(text))):
            with self.subTest(text):
                check_error(self, expected, parse_tokens, grammar, tokens)

    def test_examples(self):
        self.assertEqual(parse_tokens(LINE_EXAMPLE, ["-sk", "me", "x"]), ({'sign': True, 'key': 'me'}, ['x']))
        check_error(self, UnmetClause(0), parse_tokens, LINE_EXAMPLE, ["--sign"])
        check_error(self, ParseError(1, 'value'), parse_tokens, LINE_EXAMPLE, ["x", "--l=12"])

    def test_whole_lines(self):
        self.check(LINE_EXAMPLE, "", {}, "")
        self.check(LINE_EXAMPLE, "a -kx b --mode fu", {"key": "x", "mode": "full"}, "a b")
        self.check(NESTED, "-z -- -z", {"z": True}, "-z")
        self.check(CONFLICT, "-ab x", {"ab": True, "bc": True}, "x")
        self.check(CONFLICT, "x -e --de=3 -cy z", {"ef": True, "de": 3, "cd": "y"}, "x z")

    def test_missing_value(self):
        for text in ("--level", "-sl", "x --mode", "-k", "-kx --le", "-s -l"):
            self.error(LINE_EXAMPLE, text, ParseError(len(tokens_of(text)), "missing"))

    def test_too_few_positional_words(self):
        for text in ("", "-z", "--name x", "--", "--name=a --"):
            self.error(NESTED, text, ParseError(len(tokens_of(text)), "positionals"))
        grammar = (flags("a"), (9, 9), ())
        self.error(grammar, "a b c d e f g h", ParseError(8, "positionals"))
        self.check(grammar, "a b c d e f g h i", {}, "a b c d e f g h i")

    def test_missing_value_comes_before_positional_words(self):
        self.error(NESTED, "--name", ParseError(1, "missing"))
        self.error(NESTED, "-z -d", ParseError(2, "missing"))

    def test_errors_of_tokens_come_first(self):
        self.error(NESTED, "--q --name", ParseError(0, "unknown"))
        self.error(UNSATISFIABLE, "--q", ParseError(0, "unknown"))
        self.error(UNSATISFIABLE, "x -l", ParseError(2, "missing"))
        self.error((flags("a"), (1, 1), UNSATISFIABLE[2]), "", ParseError(0, "positionals"))
        self.error(CONFLICT, "-abcx", ParseError(1, "positionals"))
        self.error(CONFLICT, "-abc", ParseError(1, "missing"))

    def test_unsatisfiable(self):
        for text in ("", "--a", "x -s", "--a -s x"):
            self.error(UNSATISFIABLE, text, Unsatisfiable())

    def test_conflict(self):
        self.error(CONFLICT, "-acx y", Conflict(tuple(literals("+ab +bc -cd"))))
        self.error(CONFLICT, "y -cx -ab", Conflict(tuple(literals("+bc -cd"))))
        grammar = (flags("a", "b"), (0, 0), (("excludes", "a", "a"), ("either", "b", "b")))
        self.error(grammar, "--a", Conflict(tuple(literals("+a -a"))))

    def test_conflict_comes_before_unmet_clauses(self):
        grammar = (flags("a", "b", "c"), (0, 0), (("needs", "a", "c"), ("excludes", "a", "b")))
        self.error(grammar, "--a --b", Conflict(tuple(literals("+a -b"))))

    def test_unmet_clause(self):
        self.error(CONFLICT, "x -a", UnmetClause(0))
        self.error(CONFLICT, "x -b", UnmetClause(3))
        self.error(CONFLICT, "x", UnmetClause(3))
        self.error(CONFLICT, "x -e -a", UnmetClause(0))
        grammar = (flags("a", "b"), (0, 0), (("needs", "b", "a"), ("either", "a", "b"), ("needs", "a", "b")))
        self.error(grammar, "", UnmetClause(1))
        self.error(grammar, "--a", UnmetClause(2))
        self.error(grammar, "--b", UnmetClause(0))
        self.check(grammar, "--b --a", {"b": True, "a": True}, "")

    def test_every_set_of_options(self):
        for chosen in itertools.chain(*[itertools.combinations("abce", size) for size in range(5)]):
            given = [name for name in names_in(CONFLICT) if name[0] in chosen]
            text = " ".join(["x", *[f"-{letter}" + ("v" if letter == "c" else "") for letter in reversed(chosen)]])
            unmet = [index for index, clause in enumerate(CONFLICT[2]) if not is_met(clause, given)]
            if not accepted_by_search(CONFLICT, given):
                pairs = [((one, True), (other, False)) for one in given for other in given]
                self.error(CONFLICT, text, Conflict(tuple(best_chain(CONFLICT, pairs))))
            elif unmet:
                self.error(CONFLICT, text, UnmetClause(unmet[0]))
            else:
                values = {name: "v" if name == "cd" else True for name in reversed(given)}
                self.check(CONFLICT, text, values, "x")

    def test_returned_values_belong_to_the_caller(self):
        for _ in range(2):
            given, words = parse_tokens(LINE_EXAMPLE, ["-kx", "a"])
            self.assertEqual((given, words), ({"key": "x"}, ["a"]))
            given.clear()
            words.clear()


class SuggestTest(unittest.TestCase):
    def check(self, text, start, expected, grammar=NESTED):
        for tokens in (tokens_of(text), tuple(tokens_of(text))):
            with self.subTest((text, start)):
                found = suggest(grammar, tokens, start)
                self.assertIs(type(found), list)
                self.assertEqual(found, expected.split())

    def test_examples(self):
        self.assertEqual(suggest(LINE_EXAMPLE, ["-s"], "--"), ['--key=', '--level=', '--mode='])
        self.assertEqual(suggest(LINE_EXAMPLE, ["--mode"], "f"), ['fast', 'full'])

    def test_all_options_in_ascending_order(self):
        everything = "--col --col-a= --color= --depth= --name= --no-op --z"
        for start in ("", "-", "--"):
            self.check("", start, everything)
        self.check("a b c", "", everything)
        grammar = ((("ab", "", None), ("a", "", ("word",)), ("a-b", "", None), ("aa", "", ("word",))), (0, 0), ())
        self.check("", "", "--a-b --a= --aa= --ab", grammar)

    def test_beginnings(self):
        self.check("", "--c", "--col --col-a= --color=")
        self.check("", "--col", "--col --col-a= --color=")
        self.check("", "--col-", "--col-a=")
        self.check("", "--col-a=", "--col-a=")
        self.check("", "--n", "--name= --no-op")
        self.check("", "--z", "--z")
        for start in ("--z=", "--x", "z", "-z", "---", "a", "--col-a=5", " ", "--colors", "%", "\u00e9", "--N"):
            self.check("", start, "")

    def test_given_options_are_left_out(self):
        self.check("--z -nx", "", "--col --col-a= --color= --depth= --no-op")
        self.check("-zxonx --color=auto --col-a 5 -d 5", "", "")

    def test_choices_for_a_pending_option(self):
        for text in ("--color", "-c", "-zxc", "a --colo"):
            self.check(text, "", "always auto never")
            self.check(text, "a", "always auto")
            self.check(text, "au", "auto")
            self.check(text, "auto", "auto")
            self.check(text, "autos", "")
            self.check(text, "-", "")
            self.check(text, "--", "")

    def test_nothing_for_other_pending_options(self):
        for text in ("--depth", "--name", "-n", "-zd", "a --col-a"):
            for start in ("", "-", "--", "a", "5"):
                self.check(text, start, "")

    def test_pending_option_does_not_count_as_given(self):
        grammar = ((("a", "", ("choice", ("x",))), ("b", "", None)), (0, 0), (("excludes", "a", "b"),))
        self.check("--b", "", "", grammar)
        self.check("--a", "", "x", grammar)
        self.check("--b --a", "", "x", grammar)
        self.check("--a x", "", "", grammar)

    def test_nothing_behind_a_separator(self):
        for text in ("--", "-z --", "a -- b", "-- --color", "-- -c"):
            for start in ("", "-", "--", "a"):
                self.check(text, start, "")
        self.check("--name --", "--z", "--z")

    def test_verdicts(self):
        self.check("x", "", "--ab --bc --cd= --de= --ef", CONFLICT)
        self.check("x -a", "", "--bc --de= --ef", CONFLICT)
        self.check("x -cy", "", "--de= --ef", CONFLICT)
        self.check("x -b", "", "--ab --de= --ef", CONFLICT)
        self.check("x -e", "", "--ab --bc --cd= --de=", CONFLICT)
        self.check("-s", "--k", "--key=", LINE_EXAMPLE)

    def test_against_a_search(self):
        for given in (["ab"], ["bc"], ["ef"], ["ab", "bc"], ["bc", "ef"], []):
            sets = accepted_by_search(CONFLICT, given)
            expected = [
                f"--{name}" + ("=" if kind else "") for name, _, kind in CONFLICT[0]
                if name not in given and any(name in chosen for chosen in sets)
            ]
            self.check(" ".join(f"--{name}" for name in given), "", " ".join(sorted(expected)), CONFLICT)

    def test_unsatisfiable(self):
        for text in ("", "--a", "--mode", "--", "--level", "-- x"):
            for start in ("", "--", "q"):
                check_error(self, Unsatisfiable(), suggest, UNSATISFIABLE, tokens_of(text), start)

    def test_conflict(self):
        expected = Conflict(tuple(literals("+ab +bc -cd")))
        for text in ("-a -cx", "-cx y -a", "-a -cx --", "-acx --de", "--ab --cd= -- y"):
            for start in ("", "--", "q"):
                check_error(self, expected, suggest, CONFLICT, tokens_of(text), start)

    def test_parse_errors_come_first(self):
        check_error(self, ParseError(0, "unknown"), suggest, UNSATISFIABLE, ["--q"], "")
        check_error(self, ParseError(2, "unknown"), suggest, CONFLICT, ["-a", "-cx", "--q"], "")

    def test_returned_list_belongs_to_the_caller(self):
        for text, expected in (("--color", ["always", "auto", "never"]), ("-zxo -nx -d5", ["--col-a=", "--color="])):
            for _ in range(2):
                found = suggest(NESTED, tokens_of(text), "")
                self.assertEqual(found, expected)
                found.clear()

    def test_words_and_options_are_left_to_the_caller(self):
        before = repr(EXAMPLE)
        self.assertEqual(suggest(EXAMPLE, [], "--k"), ["--key="])
        self.assertEqual(repr(EXAMPLE), before)


if __name__ == "__main__":
    unittest.main()
