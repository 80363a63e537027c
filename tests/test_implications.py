"""flagclause/implications.py: points 1 and 5."""

import copy
import random
import unittest

from flagclause import implications
from flagclause.errors import InvalidGrammar, UnknownOption
from flagclause.implications import consequences, find_chain
from tests.helper import (
    EXAMPLE, INVALID_GRAMMARS, NO_NAMES, NO_PAIRS, all_literals, chain_by_search, error_of, grammar_of,
    grammars_for_search, literal, literals,
)


class FindChainTest(unittest.TestCase):
    def check(self, grammar, start, goal, expected):
        found = find_chain(grammar, literal(start), literal(goal))
        self.assertEqual(found, None if expected is None else literals(expected))

    def test_defined_here(self):
        for function in (find_chain, consequences):
            self.assertEqual(function.__module__, "flagclause.implications")
            self.assertIs(getattr(implications, function.__name__), function)

    def test_example_with_a_chain(self):
        found = find_chain(EXAMPLE, ("raw", True), ("sign", False))
        self.assertEqual(found, [("raw", True), ("key", False), ("sign", False)])

    def test_example_without_a_chain(self):
        self.assertIsNone(find_chain(EXAMPLE, ("raw", False), ("key", True)))

    def test_kind_of_value(self):
        found = find_chain(EXAMPLE, ("raw", True), ("sign", False))
        self.assertIs(type(found), list)
        for item in found:
            self.assertEqual([type(item), type(item[0]), type(item[1])], [tuple, str, bool])

    def test_one_literal(self):
        for item in all_literals(EXAMPLE):
            self.assertEqual(find_chain(EXAMPLE, item, item), [item])

    def test_one_literal_in_spite_of_cycles(self):
        grammar = grammar_of("a b", "needs a a", "needs a b", "needs b a", "either a a", "excludes a a")
        for item in all_literals(grammar):
            self.assertEqual(find_chain(grammar, item, item), [item])

    def test_needs(self):
        grammar = grammar_of("a b", "needs a b")
        self.check(grammar, "+a", "+b", "+a +b")
        self.check(grammar, "-b", "-a", "-b -a")
        for start, goal in (("-a", "-b"), ("+b", "+a"), ("+a", "-b"), ("-b", "+a"), ("-a", "+b"), ("+b", "-a")):
            self.check(grammar, start, goal, None)
        for start, goal in (("+a", "-a"), ("-a", "+a"), ("+b", "-b"), ("-b", "+b")):
            self.check(grammar, start, goal, None)

    def test_excludes(self):
        grammar = grammar_of("a b", "excludes a b")
        self.check(grammar, "+a", "-b", "+a -b")
        self.check(grammar, "+b", "-a", "+b -a")
        for start, goal in (("-a", "+b"), ("-b", "+a"), ("+a", "+b"), ("-b", "-a"), ("-a", "-b"), ("+b", "+a")):
            self.check(grammar, start, goal, None)

    def test_either(self):
        grammar = grammar_of("a b", "either a b")
        self.check(grammar, "-a", "+b", "-a +b")
        self.check(grammar, "-b", "+a", "-b +a")
        for start, goal in (("+a", "-b"), ("+b", "-a"), ("+a", "+b"), ("-b", "-a"), ("-a", "-b"), ("+b", "+a")):
            self.check(grammar, start, goal, None)

    def test_clauses_that_name_one_option_twice(self):
        self.check(grammar_of("a", "needs a a"), "+a", "-a", None)
        self.check(grammar_of("a", "needs a a"), "-a", "+a", None)
        self.check(grammar_of("a", "excludes a a"), "+a", "-a", "+a -a")
        self.check(grammar_of("a", "excludes a a"), "-a", "+a", None)
        self.check(grammar_of("a", "either a a"), "-a", "+a", "-a +a")
        self.check(grammar_of("a", "either a a"), "+a", "-a", None)

    def test_several_steps_by_needs(self):
        grammar = grammar_of("d c b a", "needs c d", "needs a b", "needs b c")
        self.check(grammar, "+a", "+d", "+a +b +c +d")
        self.check(grammar, "-d", "-a", "-d -c -b -a")

    def test_several_steps_by_all_words(self):
        grammar = grammar_of("a b c d e", "needs a b", "excludes b c", "either c d", "needs d e")
        self.check(grammar, "+a", "+e", "+a +b -c +d +e")
        self.check(grammar, "-e", "-a", "-e -d +c -b -a")
        self.check(grammar, "+c", "-a", "+c -b -a")
        self.check(grammar, "+e", "-a", None)

    def test_several_steps_by_excludes_and_either(self):
        grammar = grammar_of("a b c d", "excludes a b", "either b c", "excludes c d")
        self.check(grammar, "+a", "-d", "+a -b +c -d")
        self.check(grammar, "+d", "-a", "+d -c +b -a")

    def test_chain_through_a_contrary(self):
        grammar = grammar_of("a b", "excludes a a", "either a b")
        self.check(grammar, "+a", "+b", "+a -a +b")

    def test_longest_possible_chain(self):
        names = "abcdefghijkl"
        clauses = [f"needs {names[at]} {names[at + 1]}" for at in range(11)] + ["excludes l l"]
        chain = " ".join([f"+{name}" for name in names] + [f"-{name}" for name in reversed(names)])
        self.check(grammar_of(" ".join(names), *clauses), "+a", "-a", " ".join(chain.split()))

    def test_shorter_before_smaller(self):
        grammar = grammar_of("a b c z", "needs a b", "needs b c", "needs a z", "needs c z")
        self.check(grammar, "+a", "+z", "+a +z")
        grammar = grammar_of("a b c y z", "needs a b", "needs b c", "needs c z", "needs a y", "needs y z")
        self.check(grammar, "+a", "+z", "+a +y +z")

    def test_smallest_of_several(self):
        for clauses in (
            ["needs a c", "needs c z", "needs a b", "needs b z"],
            ["needs b z", "needs a b", "needs c z", "needs a c"],
        ):
            self.check(grammar_of("z c b a", *clauses), "+a", "+z", "+a +b +z")
            self.check(grammar_of("a b c z", *clauses), "-z", "-a", "-z -b -a")

    def test_false_before_true(self):
        clauses = ["needs s b", "needs b t", "excludes s b", "either b t"]
        self.check(grammar_of("s b t", *clauses), "+s", "+t", "+s -b +t")
        self.check(grammar_of("s b t", *reversed(clauses)), "+s", "+t", "+s -b +t")

    def test_name_counts_before_truth(self):
        clauses = ["excludes s c", "either c t", "needs s b", "needs b t"]
        self.check(grammar_of("c b s t", *clauses), "+s", "+t", "+s +b +t")

    def test_first_different_literal_decides(self):
        clauses = ["needs s b", "needs b x", "needs s c", "needs c a", "needs a t", "needs x t"]
        self.check(grammar_of("s a b c x t", *clauses), "+s", "+t", "+s +b +x +t")

    def test_later_literals_decide_too(self):
        clauses = ["needs s b", "needs b y", "needs b x", "needs s c", "needs c a", "needs a t", "needs x t", "needs y t"]
        self.check(grammar_of("s a b c y x t", *clauses), "+s", "+t", "+s +b +x +t")

    def test_hyphen_counts_before_letters(self):
        clauses = ["needs s ab", "needs ab t", "needs s a-z", "needs a-z t"]
        self.check(grammar_of("s ab a-z t", *clauses), "+s", "+t", "+s +a-z +t")

    def test_repeated_clauses(self):
        self.check(grammar_of("a b", "needs a b", "needs a b", "needs a b"), "+a", "+b", "+a +b")

    def test_no_clauses(self):
        self.check(grammar_of("a b"), "+a", "+b", None)
        self.check(grammar_of("a b"), "+a", "-a", None)

    def test_values_of_options_do_not_matter(self):
        options = (("a", "x", ("int", 0, 0)), ("b", "", ("choice", ("c",))), ("c", "c", ("word",)))
        grammar = (options, (1, 9), (("needs", "a", "b"), ("excludes", "b", "c")))
        self.check(grammar, "+a", "-c", "+a +b -c")

    def test_unsatisfiable_grammar(self):
        grammar = grammar_of("a b", "either a a", "excludes a a", "needs a b")
        self.check(grammar, "-a", "+b", "-a +a +b")
        self.check(grammar, "+a", "-a", "+a -a")

    def test_against_every_chain(self):
        for grammar in grammars_for_search():
            for start in all_literals(grammar):
                for goal in all_literals(grammar):
                    with self.subTest((grammar, start, goal)):
                        self.assertEqual(
                            find_chain(grammar, start, goal), chain_by_search(grammar, start, goal)
                        )


class FindChainErrorsTest(unittest.TestCase):
    def unknown(self, start, goal, name):
        error = error_of(find_chain, EXAMPLE, start, goal)
        self.assertIs(type(error), UnknownOption, error)
        self.assertEqual((type(error.name), error.name), (type(name), name))

    def test_invalid_grammar_comes_first(self):
        for grammar, part, index in INVALID_GRAMMARS:
            for item in (("a", True), ("x", True), None):
                error = error_of(find_chain, grammar, item, item)
                self.assertIs(type(error), InvalidGrammar)
                self.assertEqual((error.part, error.index), (part, index))

    def test_unknown_names(self):
        for name in NO_NAMES:
            with self.subTest(name):
                self.unknown((name, True), ("key", True), name)
                self.unknown((name, False), ("key", True), name)
                self.unknown(("key", True), (name, True), name)
                self.unknown(("key", True), (name, False), name)

    def test_not_a_tuple_with_a_boolean(self):
        for item in NO_PAIRS:
            with self.subTest(item):
                self.unknown(item, ("key", True), None)
                self.unknown(("key", True), item, None)

    def test_start_before_goal(self):
        self.unknown(("first", True), ("second", True), "first")
        self.unknown(("first", True), None, "first")
        self.unknown(None, ("second", True), None)
        self.unknown(5, ("second", 5), None)

    def test_equal_unknown_literals(self):
        self.unknown(("x", True), ("x", True), "x")


class ConsequencesTest(unittest.TestCase):
    def check(self, grammar, given, expected):
        found = consequences(grammar, literals(given))
        self.assertEqual(found, literals(expected))

    def test_example(self):
        found = consequences(EXAMPLE, [("sign", True)])
        self.assertEqual(found, [("key", True), ("raw", False), ("sign", True)])

    def test_kind_of_value(self):
        found = consequences(EXAMPLE, [("sign", True)])
        self.assertIs(type(found), list)
        for item in found:
            self.assertEqual([type(item), type(item[0]), type(item[1])], [tuple, str, bool])

    def test_empty_list(self):
        self.check(EXAMPLE, "", "")
        self.check(grammar_of("a b", "either a a", "excludes a a"), "", "")

    def test_one_literal(self):
        self.check(EXAMPLE, "-sign", "-sign")
        self.check(EXAMPLE, "-raw", "-raw")
        self.check(EXAMPLE, "-key", "-key -sign")
        self.check(EXAMPLE, "+raw", "-key +raw -sign")
        self.check(EXAMPLE, "+key", "+key -raw")

    def test_several_literals(self):
        self.check(EXAMPLE, "-key -raw", "-key -raw -sign")
        self.check(EXAMPLE, "+sign +raw", "-key +key -raw +raw -sign +sign")
        self.check(grammar_of("a b c d", "needs a b", "needs c d"), "+c +a", "+a +b +c +d")

    def test_literal_and_its_contrary(self):
        self.check(grammar_of("a b"), "+a -a", "-a +a")

    def test_repeated_literals(self):
        self.check(EXAMPLE, "+sign +sign +key +sign", "+key -raw +sign")
        self.check(EXAMPLE, "-raw -raw", "-raw")

    def test_order(self):
        grammar = grammar_of("z m a", "needs z m", "excludes z a")
        self.check(grammar, "+z", "-a +m +z")
        self.check(grammar, "-a +z +m", "-a +m +z")
        self.check(grammar_of("b ab a-z a"), "+b +ab +a-z +a -b -ab", "+a +a-z -ab +ab -b +b")

    def test_cycles(self):
        grammar = grammar_of("a b c d", "needs a b", "needs b c", "needs c a", "needs c d")
        for given in ("+a", "+b", "+c", "+b +a"):
            self.check(grammar, given, "+a +b +c +d")
        self.check(grammar, "+d", "+d")
        self.check(grammar, "-d", "-a -b -c -d")
        self.check(grammar_of("a", "needs a a"), "+a", "+a")
        self.check(grammar_of("a", "either a a", "excludes a a"), "+a", "-a +a")

    def test_no_chain_from_two_literals_together(self):
        self.check(grammar_of("a b c", "needs a c", "needs b c"), "-a -b", "-a -b")

    def test_against_find_chain_by_search(self):
        source = random.Random(6)
        for grammar in grammars_for_search():
            items = all_literals(grammar)
            for _ in range(4):
                given = [source.choice(items) for _ in range(source.randint(0, 3))]
                expected = [
                    goal for goal in sorted(items) if any(chain_by_search(grammar, item, goal) for item in given)
                ]
                with self.subTest((grammar, given)):
                    self.assertEqual(consequences(grammar, given), expected)


class ConsequencesErrorsTest(unittest.TestCase):
    def unknown(self, given, name):
        before = copy.deepcopy(given)
        error = error_of(consequences, EXAMPLE, given)
        self.assertIs(type(error), UnknownOption, error)
        self.assertEqual((type(error.name), error.name), (type(name), name))
        self.assertEqual(given, before)

    def test_invalid_grammar_comes_first(self):
        for grammar, part, index in INVALID_GRAMMARS:
            for given in ([], [("a", True)], [("x", True)], [None], None):
                error = error_of(consequences, grammar, given)
                self.assertIs(type(error), InvalidGrammar)
                self.assertEqual((error.part, error.index), (part, index))

    def test_unknown_names(self):
        for name in ("", "keys", "s", None, 0, True, (), ("key",), [], ["key"]):
            with self.subTest(name):
                self.unknown([(name, True)], name)
                self.unknown([("key", True), (name, False), ("key", False)], name)

    def test_not_a_tuple_with_a_boolean(self):
        items = (
            None, 0, 1, True, "", "key", (), ("key",), ("key", True, True), ["key", True], ["keys", True], [],
            ("key", 1), ("key", 0), ("key", None), ("keys", "True"),
        )
        for item in items:
            with self.subTest(item):
                self.unknown([item], None)
                self.unknown([("key", True), item], None)

    def test_first_item_counts(self):
        self.unknown([("key", True), ("one", True), ("two", True), None], "one")
        self.unknown([("key", True), None, ("one", True)], None)
        self.unknown([("one", 1), ("two", True)], None)

    def test_not_a_list(self):
        for given in (None, 0, 5, True, "", "key"):
            with self.subTest(given):
                self.unknown(given, None)


class ArgumentsAndValuesTest(unittest.TestCase):
    def test_arguments_are_not_changed(self):
        given = [("raw", True), ("key", False), ("raw", True)]
        consequences(EXAMPLE, given)
        self.assertEqual(given, [("raw", True), ("key", False), ("raw", True)])

    def test_arguments_are_not_kept(self):
        given = [("key", True)]
        found = consequences(EXAMPLE, given)
        given.append(("sign", False))
        given[0] = None
        self.assertEqual(found, [("key", True), ("raw", False)])
        self.assertEqual(consequences(EXAMPLE, [("key", True)]), [("key", True), ("raw", False)])

    def test_returned_list_is_not_the_argument(self):
        given = [("raw", False)]
        found = consequences(EXAMPLE, given)
        found.append("more")
        self.assertEqual(given, [("raw", False)])

    def test_returned_values_may_be_changed(self):
        for _ in range(2):
            chain = find_chain(EXAMPLE, ("raw", True), ("sign", False))
            self.assertEqual(chain, [("raw", True), ("key", False), ("sign", False)])
            chain.clear()
            chain = find_chain(EXAMPLE, ("raw", True), ("raw", True))
            self.assertEqual(chain, [("raw", True)])
            chain.append(None)
            found = consequences(EXAMPLE, [("sign", True)])
            self.assertEqual(found, [("key", True), ("raw", False), ("sign", True)])
            found.reverse()

    def test_an_error_changes_no_later_call(self):
        for _ in range(2):
            self.assertIs(type(error_of(find_chain, EXAMPLE, ("raw", True), ("x", True))), UnknownOption)
            self.assertIs(type(error_of(consequences, EXAMPLE, [("raw", True), None])), UnknownOption)
            self.assertEqual(find_chain(EXAMPLE, ("raw", True), ("key", False)), [("raw", True), ("key", False)])
            self.assertEqual(consequences(EXAMPLE, [("raw", False)]), [("raw", False)])

    def test_grammars_do_not_mix(self):
        other = (EXAMPLE[0], EXAMPLE[1], ())
        self.assertIsNone(find_chain(other, ("raw", True), ("key", False)))
        self.assertEqual(find_chain(EXAMPLE, ("raw", True), ("key", False)), [("raw", True), ("key", False)])
        self.assertIsNone(find_chain(other, ("raw", True), ("key", False)))


if __name__ == "__main__":
    unittest.main()
