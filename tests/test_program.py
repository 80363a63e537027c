"""The whole program: the interface, and point 1 for each function of it."""

import copy
import importlib
import inspect
import unittest

from flagclause.errors import FlagclauseError
from flagclause.session import Session
from tests.helper import EXAMPLE, LINE_EXAMPLE, grammar_of

UNSATISFIABLE = grammar_of("a b", "either a a", "excludes a a")
CHAIN = [("sign", True), ("key", True), ("raw", False)]
CLAUSE = ("excludes", "raw", "sign")
LESS = (EXAMPLE[0], (0, 0), EXAMPLE[2][:1])
DATA = bytes([76, 1, 2, 39, 22, 1, 1, 87, 229])
MODE = ("choice", ("fast", "full", "slow"))

# Each function with its parameters and some arguments that it takes, and some that raise an exception.
FUNCTIONS = {
    "grammar": {"option_names": ("grammar", [(EXAMPLE,)], [(None,)])},
    "implications": {
        "find_chain": ("grammar start goal", [(EXAMPLE, CHAIN[0], CHAIN[-1])], [(EXAMPLE, CHAIN, CHAIN[0])]),
        "consequences": ("grammar literals", [(EXAMPLE, CHAIN), (EXAMPLE, [])], [(EXAMPLE, [CHAIN])]),
    },
    "analysis": {
        "is_accepted": ("grammar names", [(EXAMPLE, ["key"])], [(EXAMPLE, ["keys"])]),
        "contradiction": ("grammar", [(EXAMPLE,), (UNSATISFIABLE,)], [((),)]),
        "count_accepted": ("grammar", [(EXAMPLE,)], [([],)]),
        "always_required": ("grammar", [(EXAMPLE,)], [(UNSATISFIABLE,)]),
        "never_possible": ("grammar", [(grammar_of("a", "excludes a a"),)], [(UNSATISFIABLE,)]),
        "option_groups": ("grammar", [(EXAMPLE,)], [(UNSATISFIABLE,)]),
    },
    "completion": {
        "verdicts": ("grammar given", [(EXAMPLE, ["sign"])], [(EXAMPLE, ["raw", "sign"])]),
        "explain_verdict": ("grammar given name", [(EXAMPLE, ["sign"], "raw")], [(EXAMPLE, ["sign"], [])]),
        "complete": ("grammar given", [(EXAMPLE, ["sign"])], [(EXAMPLE, ["raw", "sign"])]),
        "complete_with": ("grammar given name is_given", [(EXAMPLE, ["sign"], "key", True)], [(EXAMPLE, [], "x", True)]),
    },
    "evidence": {
        "check_chain": ("grammar chain", [(EXAMPLE, CHAIN)], [(EXAMPLE, CHAIN[::-1])]),
        "describe": ("grammar chain", [(EXAMPLE, CHAIN)], [(EXAMPLE, [])]),
        "judge": ("grammar given name chain", [(EXAMPLE, ["sign"], "raw", CHAIN)], [(EXAMPLE, ["x"], "raw", CHAIN)]),
        "shows_conflict": ("grammar given chain", [(EXAMPLE, ["sign", "raw"], CHAIN)], [(EXAMPLE, [], [None])]),
        "shows_implied": ("grammar clause chain", [(EXAMPLE, CLAUSE, CHAIN)], [(EXAMPLE, list(CLAUSE), CHAIN)]),
        "shows_contradiction": ("grammar chains", [(EXAMPLE, (CHAIN, CHAIN))], [(EXAMPLE, (CHAIN, []))]),
    },
    "comparison": {
        "implied": ("grammar clause", [(EXAMPLE, CLAUSE)], [(EXAMPLE, [])]),
        "counterexample": ("grammar clause", [(EXAMPLE, ("needs", "key", "sign"))], [(UNSATISFIABLE, CLAUSE)]),
        "redundant_clauses": ("grammar", [(EXAMPLE,)], [(UNSATISFIABLE,)]),
        "reduce_clauses": ("grammar", [(EXAMPLE,)], [(UNSATISFIABLE,)]),
        "missing_clause": ("grammar other", [(LESS, EXAMPLE)], [(EXAMPLE, UNSATISFIABLE)]),
        "first_difference": ("grammar other", [(EXAMPLE, LESS)], [(EXAMPLE, LINE_EXAMPLE)]),
    },
    "lexer": {
        "split_line": ("line", [("a 'b c'",)], [("a 'b",)]),
        "quote": ("token", [("a b",)], [("%",)]),
        "join_line": ("tokens", [(["a b", ""],)], [(["a", None],)]),
    },
    "values": {
        "parse_value": ("kind text", [(MODE, "s")], [(MODE, "f")]),
        "format_value": ("kind value", [(MODE, "slow")], [(MODE, ["slow"])]),
        "shorten_value": ("kind value", [(MODE, "slow")], [(["word"], "slow")]),
    },
    "lines": {
        "read_prefix": ("grammar tokens", [(LINE_EXAMPLE, ["-sk", "me", "x", "--level"])], [(LINE_EXAMPLE, ["x", "-q"])]),
        "parse_tokens": ("grammar tokens", [(LINE_EXAMPLE, ["-sk", "me", "x"])], [(LINE_EXAMPLE, ["--sign"])]),
        "suggest": ("grammar tokens start", [(LINE_EXAMPLE, ["-s"], "--"), (LINE_EXAMPLE, ["--mode"], "f")],
                    [(LINE_EXAMPLE, [[]], "")]),
        "compact": ("grammar assignments words", [(LINE_EXAMPLE, {"level": 7, "sign": True}, ["-x"])],
                    [(LINE_EXAMPLE, {"level": 70, "sign": True}, ["-x"])]),
    },
    "layers": {
        "resolve": ("grammar layers", [(LINE_EXAMPLE, [[("level", 3)], [("level", 5), ("mode", "fast")]])],
                    [(LINE_EXAMPLE, [[], [("level", [])]])]),
    },
    "notation": {
        "format_grammar": ("grammar", [(LINE_EXAMPLE,)], [(list(LINE_EXAMPLE),)]),
        "parse_grammar": ("text", [("option a - choice b c\nwords 0 2",)], [("option",)]),
    },
    "codec": {
        "pack_bytes": ("values", [([0, 255],)], [([0, 256],)]),
        "unpack_bytes": ("data", [(DATA,)], []),
        "encode_grammar": ("grammar", [(LINE_EXAMPLE,)], [(list(LINE_EXAMPLE),)]),
        "decode_grammar": ("data", [(bytes([71, 1, 1, 1, 0, 0, 0, 1, 0, 75]),)], [(DATA,)]),
        "encode_arguments": ("grammar assignments words", [(LINE_EXAMPLE, {"level": 7, "key": ""}, ["x"])],
                             [(LINE_EXAMPLE, {"level": 7}, ["x", 5])]),
        "decode_arguments": ("grammar data", [(LINE_EXAMPLE, DATA)], [(LINE_EXAMPLE, DATA[1:])]),
    },
}


def spoil(value):
    """Change every list and dict in a value."""
    for item in list(value.values()) if isinstance(value, dict) else value if isinstance(value, (list, tuple)) else ():
        spoil(item)
    if isinstance(value, (list, dict)):
        value.clear()


def outcome(function, arguments):
    """Return the value of a call, or the class and the attributes of its exception."""
    try:
        return function(*arguments)
    except FlagclauseError as error:
        return (type(error).__name__, vars(error))


class InterfaceTest(unittest.TestCase):
    def test_functions(self):
        for file, functions in FUNCTIONS.items():
            module = importlib.import_module(f"flagclause.{file}")
            for name, (parameters, _, _) in functions.items():
                with self.subTest(name):
                    function = getattr(module, name)
                    self.assertEqual((function.__module__, function.__name__), (module.__name__, name))
                    found = inspect.signature(function).parameters.values()
                    self.assertEqual([parameter.name for parameter in found], parameters.split())
                    self.assertEqual({parameter.kind for parameter in found}, {inspect.Parameter.POSITIONAL_OR_KEYWORD})


class EqualCallsTest(unittest.TestCase):
    def calls(self):
        for file, functions in FUNCTIONS.items():
            module = importlib.import_module(f"flagclause.{file}")
            for name, (_, good, bad) in functions.items():
                for is_good, rows in ((True, good), (False, bad)):
                    for arguments in rows:
                        with self.subTest((name, arguments)):
                            yield getattr(module, name), arguments, is_good

    def test_arguments_are_not_changed(self):
        for function, arguments, _ in self.calls():
            given = copy.deepcopy(arguments)
            outcome(function, given)
            self.assertEqual(repr(given), repr(arguments))

    def test_values_and_exceptions(self):
        for function, arguments, is_good in self.calls():
            found = outcome(function, copy.deepcopy(arguments))
            is_error = isinstance(found, tuple) and len(found) == 2 and isinstance(found[1], dict)
            self.assertEqual(is_error, not is_good, found)

    def test_equal_calls_return_equal_values(self):
        for function, arguments, _ in self.calls():
            given = copy.deepcopy(arguments)
            first = outcome(function, given)
            expected = copy.deepcopy(first)
            spoil(first)
            self.assertEqual(repr(given), repr(arguments))
            self.assertEqual(repr(outcome(function, given)), repr(expected))
            self.assertEqual(repr(outcome(function, copy.deepcopy(arguments))), repr(expected))

    def test_values_do_not_change_with_the_arguments(self):
        for function, arguments, _ in self.calls():
            given = copy.deepcopy(arguments)
            found = outcome(function, given)
            expected = repr(found)
            if isinstance(found, tuple) and found[:1] == ("UnknownOption",):
                # Its name is the item itself, whatever it is.
                continue
            spoil(given)
            self.assertEqual(repr(found), expected)


class SessionTest(unittest.TestCase):
    def test_exceptions_change_no_state(self):
        session = Session(LINE_EXAMPLE)
        session.add_all(["x", "-s"])
        session.save("a")
        session.add("-l")
        before = (session.tokens(), session.verdicts(), session.pending_option(), session.checkpoints())
        for call in (lambda: session.add("10"), lambda: session.add(None), lambda: session.finish(),
                     lambda: session.save("A"), lambda: session.restore("b"), lambda: session.add_all(["5", "-k"] * 2),
                     lambda: session.add_all(("5",))):
            with self.assertRaises(FlagclauseError):
                call()
            found = (session.tokens(), session.verdicts(), session.pending_option(), session.checkpoints())
            self.assertEqual(found, before)
        self.assertEqual([session.undo() for _ in range(4)], [True, True, True, False])

    def test_equal_calls_return_equal_values(self):
        session = Session(LINE_EXAMPLE)
        session.add_all(["-s", "-kx", "y"])
        session.save("a")
        for call in (session.tokens, session.verdicts, session.finish, session.checkpoints):
            expected = repr(call())
            spoil(call())
            self.assertEqual(repr(call()), expected)

    def test_arguments_are_not_changed(self):
        session, tokens = Session(LINE_EXAMPLE), ["-s", "x"]
        session.add_all(tokens)
        self.assertEqual(tokens, ["-s", "x"])
        tokens.clear()
        self.assertEqual(session.tokens(), ["-s", "x"])


if __name__ == "__main__":
    unittest.main()
