"""flagclause/session.py: points 1 and 20."""

import inspect
import random
import unittest

from flagclause import session as file
from flagclause.completion import verdicts
from flagclause.errors import (
    Conflict, FlagclauseError, InvalidName, InvalidOperation, InvalidToken, ParseError, UnknownCheckpoint,
    UnmetClause, Unsatisfiable,
)
from flagclause.lines import parse_tokens, read_prefix
from flagclause.session import Session
from tests.helper import (
    INVALID_GRAMMARS, LINE_EXAMPLE, NO_LISTS, NO_TOKENS, check_error, error_of, flags, grammar_of, literals,
)

METHODS = {
    "add": ["token"], "remove": [], "tokens": [], "verdicts": [], "pending_option": [], "finish": [],
    "save": ["name"], "restore": ["name"], "checkpoints": [], "undo": [], "add_all": ["tokens"], "is_busy": [],
}

CLAUSES = (
    (("ab", "a", None), ("bc", "b", None), ("cd", "c", ("word",)), ("de", "d", ("int", 0, 9)), ("ef", "e", None)),
    (1, 3),
    (("needs", "ab", "bc"), ("excludes", "bc", "cd"), ("either", "ab", "ef")),
)

NO_NAMES = (None, True, 0, 1, "", "a" * 9, "A", "a1", "a b", "a-b", "-", " ", "a ", "\u00e9", "a\n", "_", (), ("a",),
            [], ["a"], {}, "abcdefghi")


def state(session):
    """Return what a session tells of itself, but for what undo returns."""
    return (session.tokens(), session.verdicts(), session.pending_option(), session.checkpoints(), session.is_busy())


def history(session):
    """Return all states to which undo returns, and revert all changes on the way."""
    states = [state(session)]
    while session.undo():
        states.append(state(session))
    return states


def typed(grammar, *tokens):
    session = Session(grammar)
    for token in tokens:
        session.add(token)
    return session


class ClassTest(unittest.TestCase):
    def test_defined_here(self):
        self.assertEqual((Session.__module__, Session.__qualname__), (file.__name__, "Session"))
        self.assertEqual(list(inspect.signature(Session).parameters), ["grammar"])
        for name, parameters in METHODS.items():
            self.assertIn(name, vars(Session))
            self.assertEqual(list(inspect.signature(vars(Session)[name]).parameters), ["self", *parameters])

    def test_invalid_grammars(self):
        for grammar, part, index in INVALID_GRAMMARS:
            with self.subTest((part, index)):
                error = error_of(Session, grammar)
                self.assertEqual((type(error).__name__, vars(error)), ("InvalidGrammar", {"part": part, "index": index}))

    def test_unsatisfiable(self):
        check_error(self, Unsatisfiable(), Session, grammar_of("a b", "either a a", "excludes a a"))

    def test_new_session(self):
        session = Session(LINE_EXAMPLE)
        possible = {"sign": "possible", "key": "possible", "level": "possible", "mode": "possible"}
        self.assertEqual(state(session), ([], possible, None, [], False))
        self.assertIs(session.undo(), False)
        self.assertIs(session.is_busy(), False)


class AddTest(unittest.TestCase):
    def check(self, session, token, changed):
        """Check the verdicts that a token changes, such as "a+ b!", and their order."""
        letters = {"+": "given", "!": "required", "?": "possible", "-": "impossible"}
        before, tokens = session.verdicts(), session.tokens()
        found = session.add(token)
        self.assertEqual(list(found.items()), [(part[:-1], letters[part[-1]]) for part in changed.split()])
        after = session.verdicts()
        self.assertEqual(list(found.items()), [pair for pair in after.items() if before[pair[0]] != pair[1]])
        self.assertEqual(session.tokens(), [*tokens, token])

    def test_example(self):
        session = Session(LINE_EXAMPLE)
        self.assertEqual(session.add("-s"), {'sign': 'given', 'key': 'required'})

    def test_positional_words(self):
        session = Session(CLAUSES)
        for token in ("x", "", "-5"):
            self.check(session, token, "")

    def test_options(self):
        session = Session(CLAUSES)
        self.check(session, "--ab", "ab+ bc! cd-")
        self.check(session, "-b", "bc+")
        self.check(session, "--ef", "ef+")
        self.check(session, "--d=5", "de+")
        session = Session(CLAUSES)
        self.check(session, "--cd=x", "ab- bc- cd+ ef!")
        self.check(session, "-ed5", "de+ ef+")

    def test_order_is_that_of_the_grammar(self):
        self.check(Session(CLAUSES), "-eba", "ab+ bc+ cd- ef+")
        self.check(Session(CLAUSES), "-ecx", "ab- bc- cd+ ef+")

    def test_option_that_is_given_with_the_next_token(self):
        session = Session(CLAUSES)
        self.check(session, "--cd", "")
        self.assertEqual(session.pending_option(), "cd")
        self.assertEqual(session.verdicts()["cd"], "possible")
        self.check(session, "--ab", "ab- bc- cd+ ef!")
        self.assertIs(session.pending_option(), None)
        self.check(session, "-ed", "ef+")
        self.assertEqual(session.pending_option(), "de")
        self.check(session, "7", "de+")

    def test_separator(self):
        session = Session(CLAUSES)
        self.check(session, "--", "")
        self.check(session, "--ab", "")
        self.check(session, "--", "")
        self.assertEqual(session.tokens(), ["--", "--ab", "--"])

    def test_options_that_are_given_already_decided(self):
        session = Session(grammar_of("a b", "either a a", "excludes b b"))
        self.assertEqual(session.verdicts(), {"a": "required", "b": "impossible"})
        self.check(session, "--a", "a+")

    def test_returned_dicts_belong_to_the_caller(self):
        session = Session(CLAUSES)
        for found in (session.add("-e"), session.verdicts(), session.add("-a")):
            found.clear()
            found["ab"] = "given"
        self.assertEqual(session.verdicts(), verdicts(CLAUSES, ["ef", "ab"]))
        self.assertEqual(session.add("-b"), {"bc": "given"})


class AddErrorsTest(unittest.TestCase):
    def check(self, session, token, expected):
        with self.subTest(token):
            before = state(session)
            check_error(self, expected, session.add, token)
            self.assertEqual(state(session), before)

    def test_invalid_tokens(self):
        session = typed(CLAUSES, "x", "-e")
        for token in NO_TOKENS:
            self.check(session, token, InvalidToken(0))
        self.assertEqual(len(history(session)), 3)

    def test_parse_errors(self):
        session = typed(CLAUSES, "x", "-e", "y", "--ab")
        for token, reason in (("--q", "unknown"), ("-q", "unknown"), ("--ef", "repeated"),
                              ("-e", "repeated"), ("--de=x", "value"), ("-d10", "value"), ("--b=", "value")):
            self.check(session, token, ParseError(4, reason))
        session.add("z")
        self.check(session, "z", ParseError(5, "positionals"))
        session.add("--de")
        self.check(session, "10", ParseError(6, "value"))
        self.check(session, "", ParseError(6, "value"))
        self.assertEqual(len(history(session)), 7)

    def test_ambiguous(self):
        session = Session((flags("ab", "ac"), (0, 0), ()))
        self.check(session, "--a", ParseError(0, "ambiguous"))
        self.assertIs(session.undo(), False)

    def test_conflict(self):
        session = typed(CLAUSES, "x", "-a")
        self.check(session, "-cx", Conflict(tuple(literals("+ab +bc -cd"))))
        session.add("-b")
        self.check(session, "--cd=x", Conflict(tuple(literals("+bc -cd"))))
        session.add("--cd")
        self.check(session, "x", Conflict(tuple(literals("+bc -cd"))))
        self.assertEqual(session.pending_option(), "cd")
        self.assertEqual(len(history(session)), 5)

    def test_order_of_errors(self):
        session = typed(CLAUSES, "-a")
        self.check(session, "--cd=%", InvalidToken(0))
        self.check(session, "-cx%", InvalidToken(0))
        self.check(session, "-cx", Conflict(tuple(literals("+ab +bc -cd"))))
        self.check(session, "-acx", ParseError(1, "repeated"))


class RemoveUndoRestoreTest(unittest.TestCase):
    def test_examples(self):
        session = Session(LINE_EXAMPLE)
        session.add("x")
        self.assertEqual(session.remove(), 'x')
        session = Session(LINE_EXAMPLE)
        session.add("--mode")
        self.assertEqual([session.tokens(), session.pending_option()], [['--mode'], 'mode'])
        session = Session(LINE_EXAMPLE)
        session.add("x")
        self.assertEqual([session.undo(), session.undo(), session.tokens()], [True, False, []])

    def test_remove(self):
        session = typed(CLAUSES, "--cd", "--ab", "")
        for token, tokens, pending in (("", ["--cd", "--ab"], None), ("--ab", ["--cd"], "cd"), ("--cd", [], None)):
            self.assertEqual(session.remove(), token)
            self.assertEqual((session.tokens(), session.pending_option()), (tokens, pending))
            self.assertEqual(session.verdicts(), verdicts(CLAUSES, list(read_prefix(CLAUSES, tokens)[0])))
        self.assertIs(session.remove(), None)
        self.assertEqual(session.tokens(), [])

    def test_remove_of_nothing_is_no_change(self):
        session = Session(CLAUSES)
        self.assertIs(session.remove(), None)
        self.assertIs(session.undo(), False)
        session.add("x")
        session.remove()
        session.remove()
        session.remove()
        self.assertIs(session.undo(), True)
        self.assertEqual(session.tokens(), ["x"])

    def test_undo_of_add(self):
        session = typed(CLAUSES, "x", "-a", "--de")
        for tokens in (["x", "-a"], ["x"], []):
            self.assertIs(session.undo(), True)
            self.assertEqual(session.tokens(), tokens)
            self.assertEqual(session.verdicts(), verdicts(CLAUSES, list(read_prefix(CLAUSES, tokens)[0])))
        self.assertIs(session.undo(), False)
        self.assertEqual(session.tokens(), [])

    def test_undo_of_remove(self):
        session = typed(CLAUSES, "x", "-a")
        session.remove()
        session.remove()
        self.assertEqual([session.undo(), session.tokens()], [True, ["x"]])
        self.assertEqual([session.undo(), session.tokens()], [True, ["x", "-a"]])
        self.assertEqual([session.undo(), session.tokens()], [True, ["x"]])
        self.assertEqual([session.undo(), session.undo(), session.tokens()], [True, False, []])

    def test_undo_of_restore(self):
        session = typed(CLAUSES, "x")
        session.save("a")
        session.add("-a")
        self.assertIs(session.restore("a"), None)
        self.assertEqual(session.tokens(), ["x"])
        self.assertEqual([session.undo(), session.tokens()], [True, ["x", "-a"]])
        self.assertEqual([session.undo(), session.tokens()], [True, ["x"]])

    def test_undo_of_restore_that_changed_no_token(self):
        session = typed(CLAUSES, "x")
        session.save("a")
        session.restore("a")
        self.assertEqual([session.undo(), session.tokens()], [True, ["x"]])
        self.assertEqual([session.undo(), session.tokens(), session.undo()], [True, [], False])

    def test_undo_reverts_what_has_not_been_reverted(self):
        session = typed(CLAUSES, "x", "y")
        session.undo()
        session.add("z")
        self.assertEqual(session.tokens(), ["x", "z"])
        session.undo()
        self.assertEqual(session.tokens(), ["x"])
        session.undo()
        self.assertEqual([session.tokens(), session.undo()], [[], False])

    def test_undo_of_add_all(self):
        session = typed(CLAUSES, "x")
        session.add_all(["-a", "--de", "5"])
        for tokens in (["x", "-a", "--de"], ["x", "-a"], ["x"], []):
            self.assertEqual([session.undo(), session.tokens()], [True, tokens])
        self.assertIs(session.undo(), False)

    def test_neither_save_nor_errors_are_changes(self):
        session = typed(CLAUSES, "x")
        session.save("a")
        for function, argument in ((session.add, "-q"), (session.save, ""), (session.restore, "b"),
                                   (session.add_all, ["-e", "-q"])):
            self.assertIsInstance(error_of(function, argument), FlagclauseError)
        self.assertEqual(session.add_all([]), [])
        self.assertEqual([session.undo(), session.tokens(), session.undo()], [True, [], False])

    def test_all_in_turn(self):
        session = typed(CLAUSES, "x", "-e")
        session.save("a")
        session.remove()
        session.add("y")
        session.restore("a")
        session.add_all(["--de", "3"])
        session.remove()
        states = [state[0] for state in history(session)]
        self.assertEqual(states, [["x", "-e", "--de"], ["x", "-e", "--de", "3"], ["x", "-e", "--de"], ["x", "-e"],
                                  ["x", "y"], ["x"], ["x", "-e"], ["x"], []])


class CheckpointsTest(unittest.TestCase):
    def test_examples(self):
        session = Session(LINE_EXAMPLE)
        session.save("a")
        session.add("x")
        session.restore("a")
        self.assertEqual([session.tokens(), session.checkpoints()], [[], ['a']])
        check_error(self, UnknownCheckpoint(), Session(LINE_EXAMPLE).restore, "b")

    def test_names(self):
        session = Session(CLAUSES)
        for name in ("a", "z", "abcdefgh", "zzzzzzzz", "add", "none"):
            self.assertIs(session.save(name), None)
            self.assertIs(session.restore(name), None)
        self.assertEqual(session.checkpoints(), ["a", "abcdefgh", "add", "none", "z", "zzzzzzzz"])

    def test_invalid_names(self):
        session = typed(CLAUSES, "x")
        session.save("a")
        for name in NO_NAMES:
            with self.subTest(name):
                check_error(self, InvalidName(), session.save, name)
                check_error(self, UnknownCheckpoint(), session.restore, name)
        self.assertEqual(session.checkpoints(), ["a"])
        self.assertEqual(len(history(session)), 2)

    def test_unknown_checkpoints(self):
        session = typed(CLAUSES, "x")
        session.save("b")
        for name in ("a", "bb", "B", "abcdefgh"):
            before = state(session)
            check_error(self, UnknownCheckpoint(), session.restore, name)
            self.assertEqual(state(session), before)

    def test_save_over_a_name(self):
        session = typed(CLAUSES, "x")
        session.save("a")
        session.add("-e")
        session.save("b")
        session.save("a")
        session.add("y")
        session.restore("a")
        self.assertEqual([session.tokens(), session.checkpoints()], [["x", "-e"], ["a", "b"]])

    def test_names_in_ascending_order(self):
        session = Session(CLAUSES)
        for name in ("m", "b", "ab", "z", "aa", "a"):
            session.save(name)
        self.assertEqual(session.checkpoints(), ["a", "aa", "ab", "b", "m", "z"])

    def test_stored_tokens_are_not_affected(self):
        session = typed(CLAUSES, "x", "-e")
        session.save("a")
        session.undo()
        session.undo()
        self.assertEqual([session.checkpoints(), session.tokens()], [["a"], []])
        session.add("y")
        session.restore("a")
        session.remove()
        session.add("z")
        session.undo()
        session.undo()
        session.undo()
        self.assertEqual(session.tokens(), ["y"])
        session.restore("a")
        self.assertEqual(session.tokens(), ["x", "-e"])

    def test_restore_of_a_pending_option(self):
        session = typed(CLAUSES, "--de")
        session.save("a")
        session.remove()
        session.restore("a")
        self.assertEqual(session.pending_option(), "de")
        self.assertEqual(session.add("5"), {"de": "given"})

    def test_returned_lists_belong_to_the_caller(self):
        session = typed(CLAUSES, "x")
        session.save("a")
        session.checkpoints().append("b")
        session.tokens().append("y")
        self.assertEqual((session.tokens(), session.checkpoints()), (["x"], ["a"]))
        session.tokens().clear()
        session.restore("a")
        self.assertEqual(session.tokens(), ["x"])


class FinishTest(unittest.TestCase):
    def test_example(self):
        session = Session(LINE_EXAMPLE)
        session.add("--mode")
        check_error(self, ParseError(1, 'missing'), session.finish)

    def test_whole_line(self):
        session = typed(CLAUSES, "x", "-ed", "5", "--", "-a")
        for _ in range(2):
            given, words = session.finish()
            self.assertEqual((given, words), ({"ef": True, "de": 5}, ["x", "-a"]))
            given.clear()
            words.clear()
        self.assertEqual(session.tokens(), ["x", "-ed", "5", "--", "-a"])
        session.add("y")
        self.assertEqual(session.finish(), ({"ef": True, "de": 5}, ["x", "-a", "y"]))

    def test_errors(self):
        check_error(self, ParseError(2, "missing"), typed(CLAUSES, "x", "-d").finish)
        check_error(self, ParseError(1, "missing"), typed(CLAUSES, "-d").finish)
        check_error(self, ParseError(0, "positionals"), Session(CLAUSES).finish)
        check_error(self, ParseError(2, "positionals"), typed(CLAUSES, "-e", "--").finish)
        check_error(self, UnmetClause(0), typed(CLAUSES, "-a", "x").finish)
        check_error(self, UnmetClause(2), typed(CLAUSES, "x").finish)
        check_error(self, UnmetClause(2), typed(CLAUSES, "x", "-cx").finish)

    def test_errors_change_nothing(self):
        session = typed(CLAUSES, "x", "-a")
        before = state(session)
        check_error(self, UnmetClause(0), session.finish)
        self.assertEqual(state(session), before)
        session.add("-b")
        self.assertEqual(session.finish(), ({"ab": True, "bc": True}, ["x"]))


class AddAllTest(unittest.TestCase):
    def check(self, session, tokens, index):
        with self.subTest(tokens):
            before = state(session)
            check_error(self, InvalidOperation(index), session.add_all, tokens)
            self.assertEqual(state(session), before)

    def test_examples(self):
        check_error(self, InvalidOperation(1), Session(LINE_EXAMPLE).add_all, ["x", "-z"])
        session = Session(LINE_EXAMPLE)
        self.assertEqual(session.add_all(["x", "-s"]), [{}, {'sign': 'given', 'key': 'required'}])

    def test_results_are_those_of_add(self):
        for tokens in ([], ["x"], ["--cd", "-a", "x", "-ed", "5"], ["-ab", "x", "--", "--", "-q"], ["--ab", "-b", "-e"]):
            single, whole = Session(CLAUSES), Session(CLAUSES)
            expected = [single.add(token) for token in tokens]
            self.assertEqual(list(map(list, whole.add_all(tokens))), list(map(list, expected)))
            self.assertEqual(state(single), state(whole))
            self.assertEqual(history(single), history(whole))

    def test_errors(self):
        for tokens in ([], ["x"], ["x", "-a"]):
            session = typed(CLAUSES, *tokens)
            self.check(session, ["-q"], 0)
            self.check(session, ["--q", "x"], 0)
            self.check(session, ["-e", "--de=10"], 1)
            self.check(session, ["-e", "--de", "3", "-e", "x"], 3)
            self.check(session, ["y", "z", "--", "z", "z"], 3 if tokens else 4)
            self.check(session, ["-ecx", "-b"], 0 if "-a" in tokens else 1)
            self.check(session, ["%"], 0)
            self.check(session, ["y", None, "z"], 1)
            self.check(session, ["y", "--de", 5], 2)
            self.assertEqual(len(history(session)), len(tokens) + 1)

    def test_invalid_tokens(self):
        session = typed(CLAUSES, "x")
        for token in NO_TOKENS:
            self.check(session, [token], 0)
            self.check(session, ["y", "-e", token, "-q"], 2)

    def test_not_a_list(self):
        session = typed(CLAUSES, "x")
        for tokens in (*NO_LISTS, (), ("x",), ("-e", "-q")):
            self.check(session, tokens, 0)

    def test_an_error_leaves_checkpoints_and_the_past_alone(self):
        session = typed(CLAUSES, "x")
        session.save("a")
        session.remove()
        self.check(session, ["y", "-e", "-e"], 2)
        self.assertEqual([item[0] for item in history(session)], [[], ["x"], []])
        session.restore("a")
        self.assertEqual(session.tokens(), ["x"])

    def test_typed_tokens_are_not_kept_with_the_list(self):
        session, tokens = Session(CLAUSES), ["x", "-e"]
        results = session.add_all(tokens)
        tokens.append("-q")
        results.clear()
        self.assertEqual(session.tokens(), ["x", "-e"])

    def test_is_busy(self):
        told = []

        class Told(Session):
            def add(self, token):
                told.append(self.is_busy())
                return super().add(token)

        session = Told(CLAUSES)
        self.assertIs(session.is_busy(), False)
        session.add("x")
        session.add_all(["-e", "y"])
        self.assertIs(session.is_busy(), False)
        check_error(self, InvalidOperation(1), session.add_all, ["z", "-q"])
        self.assertIs(session.is_busy(), False)
        check_error(self, InvalidOperation(0), session.add_all, None)
        self.assertIs(session.is_busy(), False)
        session.add("z")
        self.assertEqual(told, [False, True, True, True, True, False])


class SessionsTest(unittest.TestCase):
    def test_beside_each_other(self):
        first, second = Session(CLAUSES), Session(CLAUSES)
        first.add("x")
        first.save("a")
        second.add("-e")
        self.assertEqual((first.tokens(), second.tokens()), (["x"], ["-e"]))
        self.assertEqual((first.checkpoints(), second.checkpoints()), (["a"], []))
        check_error(self, UnknownCheckpoint(), second.restore, "a")
        second.undo()
        self.assertIs(second.undo(), False)
        self.assertEqual(first.tokens(), ["x"])
        first.remove()
        self.assertEqual(second.add("-a"), Session(CLAUSES).add("-a"))

    def test_against_lists_of_tokens(self):
        source = random.Random(20)
        pool = ["x", "-5", "", "--", "-a", "-b", "--cd", "--cd=x", "-d", "5", "--de=3", "-e", "-q", "--q", "-ed", "%", None]
        for _ in range(150):
            session, past, saved = Session(CLAUSES), [[]], {}
            for _ in range(40):
                self.step(source, pool, session, past, saved)
                tokens = past[-1]
                given = list(read_prefix(CLAUSES, tokens)[0])
                self.assertEqual(session.tokens(), tokens)
                self.assertEqual(session.verdicts(), verdicts(CLAUSES, given))
                self.assertEqual(session.pending_option(), read_prefix(CLAUSES, tokens)[2])
                self.assertEqual(session.checkpoints(), sorted(saved))

    def step(self, source, pool, session, past, saved):
        """Do one thing with a session and with the list of what was typed before each change and now."""
        action, token, name = source.randint(0, 9), source.choice(pool), source.choice("abc")
        if action < 4:
            expected = self.error_behind(past[-1] + [token])
            if expected is None:
                session.add(token)
                past.append(past[-1] + [token])
            else:
                self.assertIs(type(error_of(session.add, token)), expected)
        elif action == 4:
            self.assertEqual(session.remove(), past[-1][-1] if past[-1] else None)
            past += [past[-1][:-1]] if past[-1] else []
        elif action == 5:
            self.assertIs(session.undo(), len(past) > 1)
            del past[max(1, len(past) - 1):]
        elif action == 6:
            session.save(name)
            saved[name] = past[-1]
        elif action == 7 and name in saved:
            session.restore(name)
            past.append(saved[name])
        elif action == 8:
            tokens = source.choices(pool, k=source.randint(0, 3))
            bad = [at for at in range(len(tokens)) if self.error_behind(past[-1] + tokens[:at + 1])]
            if bad:
                check_error(self, InvalidOperation(bad[0]), session.add_all, tokens)
            else:
                self.assertEqual(len(session.add_all(tokens)), len(tokens))
                past.extend([past[-1] + tokens[:at + 1] for at in range(len(tokens))])
        elif action == 9:
            try:
                expected = parse_tokens(CLAUSES, past[-1])
            except FlagclauseError as error:
                check_error(self, error, session.finish)
            else:
                self.assertEqual(session.finish(), expected)

    def error_behind(self, tokens):
        """Return the class of the error of the last token, or None."""
        try:
            verdicts(CLAUSES, list(read_prefix(CLAUSES, tokens)[0]))
        except FlagclauseError as error:
            return type(error)
        return None


if __name__ == "__main__":
    unittest.main()
