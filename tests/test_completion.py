"""flagclause/completion.py: points 1 and 7."""

import copy
import itertools
import random
import unittest

from flagclause import completion
from flagclause.completion import complete, complete_with, explain_verdict, verdicts
from flagclause.errors import Conflict, Unsatisfiable, UnknownOption
from tests.helper import (
    EXAMPLE, NO_NAMES, accepted_by_search, best_chain, check_defined_in, check_error, check_invalid_grammars, flags,
    grammar_of, grammars_for_search, is_step, large_grammars, literals, names_in, opposite,
)

UNSATISFIABLE = grammar_of("a b", "either a a", "excludes a a", "excludes b b")
VERDICTS = {"+": "given", "!": "required", "?": "possible", "-": "impossible"}

# Each function with the arguments that come after the given options.
CALLS = ((verdicts, ()), (explain_verdict, ("key",)), (complete, ()), (complete_with, ("key", True)))


def call(function, grammar, given, rest):
    return function(grammar, given, *rest)


class FileTest(unittest.TestCase):
    def test_defined_here(self):
        check_defined_in(self, completion, verdicts, explain_verdict, complete, complete_with)


class ErrorsTest(unittest.TestCase):
    def check(self, expected, grammar, given, name):
        for function, rest in ((verdicts, ()), (explain_verdict, (name,)), (complete, ()),
                               (complete_with, (name, True)), (complete_with, (name, False))):
            with self.subTest(function.__name__):
                check_error(self, expected, function, grammar, given, *rest)

    def conflict(self, grammar, given, chain):
        for names in (given.split(), tuple(given.split()), list(reversed(given.split())), given.split() * 2):
            self.check(Conflict(tuple(literals(chain))), grammar, names, grammar[0][0][0])

    def test_example(self):
        grammar = (
            (("sign", "s", None), ("key", "k", ("word",)), ("raw", "", None)),
            (0, 2),
            (("needs", "sign", "key"), ("excludes", "key", "raw")),
        )
        expected = Conflict((("raw", True), ("key", False), ("sign", False)))
        check_error(self, expected, verdicts, grammar, ["raw", "sign"])

    def test_invalid_grammar_comes_first(self):
        for function, rest in CALLS:
            for given in ([], ["a"], ["x"], [None], None):
                check_invalid_grammars(self, function, given, *rest)
        for name in ("a", "x", None):
            check_invalid_grammars(self, explain_verdict, ["x"], name)
            check_invalid_grammars(self, complete_with, ["x"], name, True)

    def test_unknown_given_options(self):
        for name in NO_NAMES:
            with self.subTest(name):
                self.check(UnknownOption(name), EXAMPLE, [name], "key")
                self.check(UnknownOption(name), EXAMPLE, (name,), "key")
                self.check(UnknownOption(name), EXAMPLE, ["key", "key", name, "x", None], "key")
                self.check(UnknownOption(name), EXAMPLE, ("sign", name, []), "key")

    def test_unknown_given_options_come_before_the_rest(self):
        self.check(UnknownOption("first"), UNSATISFIABLE, ["first", "a"], "second")
        self.check(UnknownOption(3), UNSATISFIABLE, ["a", "b", 3], "a")
        self.check(UnknownOption("first"), EXAMPLE, ["raw", "sign", "first"], "second")
        self.check(UnknownOption("first"), EXAMPLE, ["raw", "first", "sign"], None)

    def test_not_a_list_or_tuple(self):
        for given in (None, 5, True, "x"):
            self.check(UnknownOption(given), EXAMPLE, given, "key")

    def test_unsatisfiable(self):
        for given in ([], ["a"], ["b"], ["a", "b"], ("b", "b")):
            for name in ("a", "b", "x", None):
                self.check(Unsatisfiable(), UNSATISFIABLE, given, name)
        self.check(Unsatisfiable(), grammar_of("c a b", "either a b", "needs a b", "needs b a", "excludes a b"),
                   ["c"], "c")

    def test_conflict_comes_before_an_unknown_name(self):
        expected = Conflict(tuple(literals("+key -raw")))
        for name in ("x", "", None, 5, [], ["key"]):
            self.check(expected, EXAMPLE, ["raw", "key"], name)

    def test_unknown_name(self):
        for name in NO_NAMES:
            with self.subTest(name):
                for given in ([], ["sign"], ("key", "key")):
                    check_error(self, UnknownOption(name), explain_verdict, EXAMPLE, given, name)
                    check_error(self, UnknownOption(name), complete_with, EXAMPLE, given, name, True)
                    check_error(self, UnknownOption(name), complete_with, EXAMPLE, given, name, False)

    def test_an_option_that_excludes_itself(self):
        self.conflict(grammar_of("a b", "excludes a a"), "a", "+a -a")
        self.conflict(grammar_of("b a", "excludes a a"), "b a", "+a -a")

    def test_an_option_that_excludes_itself_over_several_steps(self):
        self.conflict(grammar_of("a b c", "needs a b", "needs b c", "excludes c a"), "a", "+a +b +c -a")
        self.conflict(grammar_of("a b c", "needs a c", "needs c b", "excludes b a"), "a", "+a -b -c -a")
        self.conflict(grammar_of("a b", "needs a b", "excludes b b"), "a", "+a +b -b -a")

    def test_two_options(self):
        self.conflict(grammar_of("a b", "excludes a b"), "a b", "+a -b")
        self.conflict(grammar_of("b a", "excludes b a"), "a b", "+a -b")
        self.conflict(grammar_of("a b c", "excludes b a"), "c a b", "+a -b")

    def test_over_several_steps(self):
        self.conflict(grammar_of("a b c", "needs a b", "excludes b c"), "a c", "+a +b -c")
        self.conflict(grammar_of("d b c a", "needs a b", "needs b c", "excludes c d"), "a d", "+a +b +c -d")
        self.conflict(grammar_of("a b c d", "excludes a b", "either b c", "excludes c d"), "d a", "+a -b +c -d")

    def test_shortest_over_all_given_options(self):
        clauses = ("needs a b", "needs b c", "excludes c d", "excludes e d", "needs f a")
        self.conflict(grammar_of("a b c d e f", *clauses), "a d e", "+d -e")
        self.conflict(grammar_of("a b c d e f", *clauses), "a d", "+a +b +c -d")
        self.conflict(grammar_of("a b c d e f", *clauses), "f d", "+d -c -b -a -f")
        self.conflict(grammar_of("a b c d e f", *clauses), "f d b", "+b +c -d")

    def test_ties(self):
        self.conflict(grammar_of("d c b a", "excludes c d", "excludes b c"), "d c b", "+b -c")
        self.conflict(grammar_of("a b c d", "excludes a d", "excludes a c", "excludes a b"), "d c b a", "+a -b")
        clauses = ("needs a y", "excludes y b", "needs a x", "excludes x b")
        self.conflict(grammar_of("a b x y", *clauses), "a b", "+a +x -b")
        self.conflict(grammar_of("a b", "excludes a a", "excludes b b", "excludes a b"), "b a", "+a -a")

    def test_chain_is_a_tuple(self):
        for function, rest in CALLS:
            try:
                call(function, EXAMPLE, ["raw", "sign"], rest)
            except Conflict as error:
                self.assertIs(type(error.chain), tuple)
                for item in error.chain:
                    self.assertEqual([type(item), type(item[0]), type(item[1])], [tuple, str, bool])
            else:
                self.fail("no conflict")


class VerdictsTest(unittest.TestCase):
    def check(self, grammar, given, expected):
        """Check the verdicts, such as "a+ b! c? d-", and their order."""
        pairs = [(part[:-1], VERDICTS[part[-1]]) for part in expected.split()]
        for names in (given.split(), tuple(given.split()), given.split() * 2):
            found = verdicts(grammar, names)
            self.assertIs(type(found), dict)
            self.assertEqual(list(found.items()), pairs)

    def test_example(self):
        self.assertEqual(verdicts(EXAMPLE, ["sign"]), {"sign": "given", "key": "required", "raw": "impossible"})

    def test_every_set_of_the_example(self):
        self.check(EXAMPLE, "", "sign? key? raw?")
        self.check(EXAMPLE, "sign", "sign+ key! raw-")
        self.check(EXAMPLE, "key", "sign? key+ raw-")
        self.check(EXAMPLE, "raw", "sign- key- raw+")
        self.check(EXAMPLE, "key sign", "sign+ key+ raw-")

    def test_order_is_that_of_the_grammar(self):
        self.check(grammar_of("d a c b", "either c c", "excludes b c"), "a", "d? a+ c! b-")
        self.check(grammar_of("b c a d", "either c c", "excludes b c"), "d a", "b- c! a+ d+")

    def test_given_before_required_and_without_clauses(self):
        self.check(grammar_of("a b", "either a a"), "a", "a+ b?")
        self.check(grammar_of("a b"), "b a", "a+ b+")
        self.check(grammar_of("a"), "", "a?")

    def test_without_given_options(self):
        self.check(grammar_of("a b c", "either a a", "needs a b", "excludes c b"), "", "a! b! c-")
        self.check(grammar_of("a b c", "either a b", "needs b c", "needs c a"), "", "a! b? c?")
        self.check(grammar_of("a b c", "needs a b", "needs b c", "excludes c a"), "", "a- b? c?")

    def test_clauses_that_name_one_option_twice(self):
        self.check(grammar_of("a b c", "needs a a", "either b b", "excludes c c"), "", "a? b! c-")

    def test_two_options_do_not_need_a_third_one_together(self):
        self.check(grammar_of("a b c", "needs a c", "excludes b a"), "b", "a- b+ c?")
        self.check(grammar_of("a b c d", "either a b", "needs a c", "needs b d"), "", "a? b? c? d?")

    def test_through_options_that_are_not_given(self):
        self.check(grammar_of("a b c d", "excludes a b", "either b c", "excludes c d"), "a", "a+ b- c! d-")
        self.check(grammar_of("a b c d", "excludes a b", "either b c", "excludes c d"), "d", "a- b! c- d+")


class ExplainVerdictTest(unittest.TestCase):
    def check(self, grammar, given, name, expected):
        for names in (given.split(), tuple(given.split()), list(reversed(given.split())) * 2):
            found = explain_verdict(grammar, names, name)
            self.assertEqual(found, None if expected is None else literals(expected))
            self.assertIs(type(found), type(None) if expected is None else list)

    def test_example(self):
        found = explain_verdict(EXAMPLE, ["sign"], "raw")
        self.assertEqual(found, [("sign", True), ("key", True), ("raw", False)])

    def test_none_for_given_options(self):
        self.check(EXAMPLE, "sign", "sign", None)
        self.check(EXAMPLE, "sign key", "key", None)
        self.check(grammar_of("a", "either a a"), "a", "a", None)

    def test_none_for_possible_options(self):
        for name in names_in(EXAMPLE):
            self.check(EXAMPLE, "", name, None)
        self.check(EXAMPLE, "key", "sign", None)

    def test_from_a_given_option(self):
        self.check(EXAMPLE, "sign", "key", "+sign +key")
        self.check(EXAMPLE, "raw", "key", "+raw -key")
        self.check(EXAMPLE, "raw", "sign", "+raw -key -sign")
        self.check(EXAMPLE, "key sign", "raw", "+key -raw")

    def test_from_the_contrary_of_the_last_literal(self):
        self.check(grammar_of("a b", "either a a"), "", "a", "-a +a")
        self.check(grammar_of("a b", "excludes a a"), "b", "a", "+a -a")
        self.check(grammar_of("a b c", "either a b", "needs b c", "needs c a"), "", "a", "-a +b +c +a")
        self.check(grammar_of("a b c", "needs a b", "needs b c", "excludes c a"), "", "a", "+a +b +c -a")

    def test_through_an_option_that_is_always_required(self):
        self.check(grammar_of("a b", "either a a", "needs a b"), "", "b", "-b -a +a +b")
        self.check(grammar_of("a b c", "either a a", "needs a b", "needs c a"), "c", "b", "+c +a +b")

    def test_shorter_start_counts(self):
        grammar = grammar_of("a b c d", "needs a b", "needs b c", "either c c")
        self.check(grammar, "a", "c", "-c +c")
        self.check(grammar, "a b", "c", "+b +c")
        grammar = grammar_of("a b c d", "needs a b", "either b d", "needs d b", "needs c a")
        self.check(grammar, "a", "b", "+a +b")
        self.check(grammar, "", "b", "-b -d +b")
        self.check(grammar, "c", "b", "-b -d +b")

    def test_ties(self):
        grammar = grammar_of("d c b a z", "needs b z", "needs a z", "needs c z", "needs d z")
        self.check(grammar, "d b c", "z", "+b +z")
        self.check(grammar, "d b c a", "z", "+a +z")
        grammar = grammar_of("m z y x k", "needs m y", "needs y z", "needs m x", "needs x z", "either k z", "needs k z")
        self.check(grammar, "m", "z", "+m +x +z")
        self.check(grammar_of("m z", "either m m", "needs z m", "excludes z z"), "", "m", "-m +m")
        self.check(grammar_of("a m z", "either m m", "needs a m", "needs z m"), "z a", "m", "+a +m")
        self.check(grammar_of("n m", "either m m", "needs n m"), "n", "m", "-m +m")
        self.check(grammar_of("m n", "excludes n n", "excludes n m"), "m", "n", "+m -n")


class CompleteTest(unittest.TestCase):
    def check(self, grammar, given, expected):
        for names in (given.split(), tuple(given.split()), given.split() * 2):
            found = complete(grammar, names)
            self.assertIs(type(found), list)
            self.assertEqual(found, expected.split())

    def test_example(self):
        self.assertEqual(complete(EXAMPLE, ["sign"]), ["key", "sign"])

    def test_every_set_of_the_example(self):
        self.check(EXAMPLE, "", "")
        self.check(EXAMPLE, "key", "key")
        self.check(EXAMPLE, "raw", "raw")
        self.check(EXAMPLE, "sign key", "key sign")

    def test_ascending(self):
        self.check(grammar_of("d c b a", "needs d c", "needs c b", "needs b a"), "d", "a b c d")
        self.check(grammar_of("ab a-b b"), "b ab a-b", "a-b ab b")

    def test_fewest_options(self):
        clauses = ("either a z", "needs a b")
        self.check(grammar_of("a b z", *clauses), "", "z")
        self.check(grammar_of("a b z", *clauses), "b", "a b")
        self.check(grammar_of("a b c x", "either a x", "either b x", "either c x"), "", "x")

    def test_ties(self):
        self.check(grammar_of("b a", "either a b"), "", "a")
        self.check(grammar_of("c b a", "either a b", "either b c", "either a c"), "", "a b")
        self.check(grammar_of("d c b a", "either a b", "either c d"), "", "a c")
        self.check(grammar_of("d c b a", "either a b", "either c d", "excludes a c"), "", "a d")
        self.check(grammar_of("b a c", "either a b"), "c", "a c")
        self.check(grammar_of("b m a", "either a b", "excludes m a"), "m", "b m")

    def test_required_and_impossible_options(self):
        self.check(grammar_of("a b c", "either b b", "excludes c c"), "", "b")
        self.check(grammar_of("a b c", "either b b", "excludes c c"), "a", "a b")

    def test_all_options(self):
        names = "a b c d e f g h i j k l"
        self.check(grammar_of(names), names, names)
        self.check(grammar_of(names, *[f"needs {one} {two}" for one, two in itertools.pairwise(names.split())]),
                   "a", names)


class CompleteWithTest(unittest.TestCase):
    def check(self, grammar, given, name, expected, expected_without):
        for names in (given.split(), tuple(given.split()), given.split() * 2):
            for is_given, text in ((True, expected), (False, expected_without)):
                found = complete_with(grammar, names, name, is_given)
                self.assertIs(type(found), type(None) if text is None else list)
                self.assertEqual(found, None if text is None else text.split())

    def test_example(self):
        found = [complete_with(EXAMPLE, [], "raw", True), complete_with(EXAMPLE, ["sign"], "key", False)]
        self.assertEqual(found, [["raw"], None])

    def test_possible_options(self):
        self.check(EXAMPLE, "", "sign", "key sign", "")
        self.check(EXAMPLE, "", "key", "key", "")
        self.check(EXAMPLE, "key", "sign", "key sign", "key")

    def test_options_that_are_given_already(self):
        self.check(EXAMPLE, "sign", "sign", "key sign", None)
        self.check(EXAMPLE, "raw", "raw", "raw", None)
        self.check(grammar_of("a", "either a a"), "a", "a", "a", None)

    def test_required_and_impossible_options(self):
        self.check(EXAMPLE, "sign", "key", "key sign", None)
        self.check(EXAMPLE, "sign", "raw", None, "key sign")
        self.check(grammar_of("a b", "either a a", "excludes b b"), "", "a", "a", None)
        self.check(grammar_of("a b", "either a a", "excludes b b"), "", "b", None, "a")

    def test_ties(self):
        grammar = grammar_of("d c b a", "either a b", "either c d")
        self.check(grammar, "", "a", "a c", "b c")
        self.check(grammar, "", "d", "a d", "a c")
        self.check(grammar, "b", "c", "b c", "b d")
        self.check(grammar_of("c b a", "either a b", "either b c", "either a c"), "", "c", "a c", "a b")

    def test_more_options_than_without(self):
        grammar = grammar_of("x a b c", "either x a", "either x b", "either x c")
        self.check(grammar, "", "x", "x", "a b c")
        self.check(grammar, "a", "x", "a x", "a b c")


class SearchTest(unittest.TestCase):
    def check_verdicts(self, grammar, given, accepted):
        found = verdicts(grammar, given)
        self.assertEqual(list(found), names_in(grammar))
        for name, verdict in found.items():
            several = {name in chosen for chosen in accepted}
            expected = {(True,): "required", (False,): "impossible", (False, True): "possible"}[tuple(sorted(several))]
            self.assertEqual(verdict, "given" if name in given else expected, (grammar, given, name))
            for is_given in (True, False):
                sets = [chosen for chosen in accepted if (name in chosen) == is_given]
                self.assertEqual(complete_with(grammar, given, name, is_given), sets[0] if sets else None)
        self.assertEqual(complete(grammar, given), accepted[0])
        return found

    def check_chain(self, grammar, given, name, verdict):
        """Check the chain of a verdict in a grammar that has few chains."""
        expected = None
        if verdict in ("required", "impossible"):
            goal = (name, verdict == "required")
            expected = best_chain(grammar, [((one, True), goal) for one in given] + [(opposite(goal), goal)])
            self.assertIsNotNone(expected)
        self.assertEqual(explain_verdict(grammar, given, name), expected)

    def check_conflict(self, grammar, given):
        pairs = [((one, True), (two, False)) for one in given for two in given]
        expected = Conflict(tuple(best_chain(grammar, pairs)))
        for function, rest in ((verdicts, ()), (explain_verdict, ("x",)), (complete, ()), (complete_with, ("x", True))):
            check_error(self, expected, function, grammar, given, *rest)

    def test_small_grammars(self):
        counts = {"unsatisfiable": 0, "conflict": 0, "given": 0, "required": 0, "possible": 0, "impossible": 0}
        source = random.Random(31)
        for grammar in grammars_for_search(29, 200):
            for _ in range(4):
                given = [source.choice(names_in(grammar)) for _ in range(source.randint(0, 3))]
                accepted = accepted_by_search(grammar, given)
                if not accepted_by_search(grammar):
                    counts["unsatisfiable"] += 1
                    check_error(self, Unsatisfiable(), verdicts, grammar, given)
                elif not accepted:
                    counts["conflict"] += 1
                    self.check_conflict(grammar, given)
                else:
                    for name, verdict in self.check_verdicts(grammar, given, accepted).items():
                        counts[verdict] += 1
                        self.check_chain(grammar, given, name, verdict)
        self.assertGreater(min(counts.values()), 30, counts)

    def test_twelve_options_and_sixty_clauses(self):
        source = random.Random(37)
        for grammar in large_grammars(41, 8):
            for size in (0, 1, 2, 3):
                given = source.sample(names_in(grammar), size)
                accepted = accepted_by_search(grammar, given)
                if accepted:
                    found = self.check_verdicts(grammar, given, accepted)
                    self.check_steps(grammar, given, found)
                else:
                    with self.assertRaises(Conflict) as caught:
                        verdicts(grammar, given)
                    chain = caught.exception.chain
                    self.assertTrue(all(is_step(grammar, one, two) for one, two in itertools.pairwise(chain)))
                    self.assertTrue(chain[0][0] in given and chain[0][1])
                    self.assertTrue(chain[-1][0] in given and not chain[-1][1])

    def check_steps(self, grammar, given, found):
        for name, verdict in found.items():
            chain = explain_verdict(grammar, given, name)
            if verdict in ("given", "possible"):
                self.assertIsNone(chain)
                continue
            self.assertEqual(chain[-1], (name, verdict == "required"))
            self.assertTrue(chain[0] == opposite(chain[-1]) or chain[0][1] and chain[0][0] in given)
            self.assertTrue(all(is_step(grammar, one, two) for one, two in itertools.pairwise(chain)))


class ArgumentsAndValuesTest(unittest.TestCase):
    def test_arguments_are_not_changed(self):
        given = ["sign", "key", "sign"]
        before = copy.deepcopy(EXAMPLE)
        for function, rest in CALLS:
            call(function, EXAMPLE, given, rest)
        self.assertEqual((given, EXAMPLE), (["sign", "key", "sign"], before))

    def test_arguments_are_not_kept(self):
        given = ["key"]
        found = complete(EXAMPLE, given)
        given.append("sign")
        self.assertEqual(found, ["key"])
        found.append("more")
        self.assertEqual(given, ["key", "sign"])

    def test_returned_values_may_be_changed(self):
        for _ in range(2):
            found = verdicts(EXAMPLE, ["sign"])
            self.assertEqual(found, {"sign": "given", "key": "required", "raw": "impossible"})
            found["sign"] = found.pop("raw")
            for function, rest, value in (
                (explain_verdict, ("raw",), literals("+sign +key -raw")),
                (complete, (), ["key", "sign"]),
                (complete_with, ("key", True), ["key", "sign"]),
            ):
                found = call(function, EXAMPLE, ["sign"], rest)
                self.assertEqual(found, value)
                found.clear()

    def test_an_error_changes_no_later_call(self):
        for _ in range(2):
            check_error(self, Conflict(tuple(literals("+key -raw"))), complete, EXAMPLE, ["key", "raw"])
            check_error(self, UnknownOption("x"), explain_verdict, EXAMPLE, ["key"], "x")
            self.assertEqual(complete(EXAMPLE, ["key"]), ["key"])

    def test_values_of_options_do_not_matter(self):
        options = (("a", "x", ("int", 0, 0)), ("b", "", ("choice", ("c",))), ("c", "c", ("word",)))
        grammar = (options, (3, 9), (("needs", "a", "b"), ("excludes", "b", "c")))
        self.assertEqual(verdicts(grammar, ["a"]), verdicts((flags("a", "b", "c"), (0, 0), grammar[2]), ["a"]))
        self.assertEqual(complete(grammar, ["a"]), ["a", "b"])


if __name__ == "__main__":
    unittest.main()
