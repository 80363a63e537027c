"""flagclause/analysis.py: points 1, 3, 4, 6 and 9."""

import copy
import unittest

from flagclause import analysis
from flagclause.analysis import (
    always_required, contradiction, count_accepted, is_accepted, never_possible, option_groups,
)
from flagclause.errors import Unsatisfiable, UnknownOption
from tests.helper import (
    EXAMPLE, NO_NAMES, accepted_by_search, all_sets, check_defined_in, check_error, check_invalid_grammars,
    chain_by_search, flags, grammar_of, grammars_for_search, large_grammars, literals, names_in,
)

UNSATISFIABLE = grammar_of("a b", "either a a", "excludes a a")
WITHOUT_NAMES = (contradiction, count_accepted, always_required, never_possible, option_groups)


class FileTest(unittest.TestCase):
    def test_defined_here(self):
        check_defined_in(self, analysis, is_accepted, *WITHOUT_NAMES)


class IsAcceptedTest(unittest.TestCase):
    def accepts(self, grammar, *sets):
        """Check that a grammar accepts exactly these sets."""
        accepted = [sorted(names.split()) for names in sets]
        for chosen in all_sets(grammar):
            with self.subTest(chosen):
                self.assertIs(is_accepted(grammar, chosen), chosen in accepted)
                self.assertIs(is_accepted(grammar, tuple(reversed(chosen))), chosen in accepted)

    def test_examples(self):
        grammar = (
            (("sign", "s", None), ("key", "k", ("word",)), ("raw", "", None)),
            (0, 2),
            (("needs", "sign", "key"), ("excludes", "key", "raw")),
        )
        self.assertIs(is_accepted(grammar, ["key"]), True)
        check_error(self, UnknownOption("keys"), is_accepted, grammar, ["keys"])

    def test_every_set_of_the_example(self):
        self.accepts(EXAMPLE, "", "key", "raw", "key sign")

    def test_needs(self):
        self.accepts(grammar_of("a b", "needs a b"), "", "b", "a b")
        self.accepts(grammar_of("a b", "needs b a"), "", "a", "a b")

    def test_excludes(self):
        self.accepts(grammar_of("a b", "excludes a b"), "", "a", "b")

    def test_either(self):
        self.accepts(grammar_of("a b", "either a b"), "a", "b", "a b")

    def test_clauses_that_name_one_option_twice(self):
        self.accepts(grammar_of("a", "needs a a"), "", "a")
        self.accepts(grammar_of("a", "excludes a a"), "")
        self.accepts(grammar_of("a", "either a a"), "a")

    def test_no_clauses(self):
        self.accepts(grammar_of("a b"), "", "a", "b", "a b")

    def test_all_clauses_count(self):
        self.accepts(grammar_of("a b c", "either a b", "excludes b c", "needs a c"), "b", "a c")
        self.accepts(UNSATISFIABLE)

    def test_values_do_not_matter(self):
        options = (("a", "x", ("int", 0, 0)), ("b", "", ("choice", ("c",))), ("c", "c", ("word",)))
        self.accepts((options, (3, 9), (("needs", "a", "b"), ("excludes", "b", "c"))), "", "b", "c", "a b")

    def test_repeated_names(self):
        self.assertIs(is_accepted(EXAMPLE, ["key", "sign", "key", "key"]), True)
        self.assertIs(is_accepted(EXAMPLE, ("sign", "sign")), False)
        self.assertIs(is_accepted(grammar_of("a", "excludes a a"), ["a", "a"]), False)

    def test_invalid_grammar_comes_first(self):
        for names in ([], ["a"], ["x", "y"], [None], None):
            check_invalid_grammars(self, is_accepted, names)

    def test_unknown_options(self):
        for name in NO_NAMES:
            with self.subTest(name):
                check_error(self, UnknownOption(name), is_accepted, EXAMPLE, [name])
                check_error(self, UnknownOption(name), is_accepted, EXAMPLE, (name,))
                check_error(self, UnknownOption(name), is_accepted, EXAMPLE, ["key", "key", name, "other", None])
                check_error(self, UnknownOption(name), is_accepted, UNSATISFIABLE, ("a", name, 7))

    def test_not_a_list_or_tuple(self):
        for names in (None, 5, True, "x"):
            check_error(self, UnknownOption(names), is_accepted, EXAMPLE, names)

    def test_against_every_set(self):
        for grammar in grammars_for_search(11, 60) + large_grammars(12, 2):
            accepted = accepted_by_search(grammar)
            for chosen in all_sets(grammar)[:300]:
                self.assertIs(is_accepted(grammar, chosen), chosen in accepted, (grammar, chosen))


class ContradictionTest(unittest.TestCase):
    def check(self, grammar, there, back):
        self.assertEqual(contradiction(grammar), (literals(there), literals(back)))
        self.assertEqual(accepted_by_search(grammar), [])

    def test_example(self):
        found = contradiction(((("a", "", None),), (0, 0), (("either", "a", "a"), ("excludes", "a", "a"))))
        self.assertEqual(found, ([("a", False), ("a", True)], [("a", True), ("a", False)]))

    def test_kinds_of_values(self):
        found = contradiction(UNSATISFIABLE)
        self.assertEqual([type(found), type(found[0]), type(found[1])], [tuple, list, list])
        for item in found[0] + found[1]:
            self.assertEqual([type(item), type(item[0]), type(item[1])], [tuple, str, bool])

    def test_satisfiable(self):
        for grammar in (
            EXAMPLE, grammar_of("a"), grammar_of("a", "either a a"), grammar_of("a", "excludes a a"),
            grammar_of("a", "needs a a"), grammar_of("a b", "either a b", "excludes a b"),
            grammar_of("a b", "needs a b", "excludes a b"), grammar_of("a b", "either a a", "needs a b"),
        ):
            self.assertIsNone(contradiction(grammar))

    def test_chains_of_several_steps(self):
        self.check(
            grammar_of("a b c", "either a b", "needs b a", "needs a c", "excludes c a"), "-a -b +a", "+a -c -a",
        )
        clauses = ("either a b", "needs b c", "needs c a", "needs a d", "needs d e", "excludes e a")
        self.check(grammar_of("a b c d e", *clauses), "-a +b +c +a", "+a +d +e -a")
        self.check(grammar_of("e d c b a", *clauses), "-e -d -a +b +c +a +d +e", "+e -a +b +c +a -e")

    def test_four_clauses_about_two_options(self):
        clauses = ("either a b", "needs a b", "needs b a", "excludes a b")
        self.check(grammar_of("a b", *clauses), "-a -b +a", "+a -b -a")
        self.check(grammar_of("b a", *clauses), "-b -a +b", "+b -a -b")
        self.check(grammar_of("b a", *reversed(clauses)), "-b -a +b", "+b -a -b")

    def test_first_option_of_the_grammar_counts(self):
        for names in ("a b", "b a"):
            first, second = names.split()
            clauses = (f"either {second} {second}", f"excludes {second} {second}",
                       f"either {first} {first}", f"excludes {first} {first}")
            self.check(grammar_of(names, *clauses), f"-{first} +{first}", f"+{first} -{first}")

    def test_an_option_with_one_chain_does_not_count(self):
        clauses = ("either a a", "excludes b b", "either c c", "excludes c c")
        self.check(grammar_of("a b c", *clauses), "-c +c", "+c -c")
        self.check(grammar_of("d a b c", "needs d a", *clauses), "-c +c", "+c -c")

    def test_both_chains_through_another_option(self):
        clauses = ("needs a b", "excludes a b", "either a c", "excludes a c", "needs c a", "either c b", "excludes b c")
        grammar = grammar_of("a b c", *clauses)
        self.check(grammar, "-a -c +a", "+a -b -a")

    def test_ties_between_shortest_chains(self):
        clauses = ("either a z", "either a b", "needs z a", "needs b a", "needs a y", "excludes y a", "excludes a c",
                   "either c d", "excludes d a", "needs a x", "excludes x a")
        self.check(grammar_of("a b c d x y z", *clauses), "-a -b +a", "+a -x -a")
        self.check(grammar_of("a b c d x y z", *reversed(clauses)), "-a -b +a", "+a -x -a")

    def test_invalid_grammar(self):
        check_invalid_grammars(self, contradiction)

    def test_against_search(self):
        found = 0
        for grammar in grammars_for_search(13, 200, 12):
            expected = None
            for name in names_in(grammar):
                there = chain_by_search(grammar, (name, False), (name, True))
                back = chain_by_search(grammar, (name, True), (name, False))
                if expected is None and there and back:
                    expected = (there, back)
            found += expected is not None
            self.assertEqual(contradiction(grammar), expected)
            self.assertEqual(expected is None, accepted_by_search(grammar) != [])
        self.assertGreater(found, 20)
        self.assertLess(found, 180)


class CountAcceptedTest(unittest.TestCase):
    def check(self, grammar, expected):
        found = count_accepted(grammar)
        self.assertEqual((found, type(found)), (expected, int))

    def test_example(self):
        self.check(EXAMPLE, 4)

    def test_no_clauses(self):
        for count in range(1, 13):
            self.check((flags(*"abcdefghijkl"[:count]), (0, 0), ()), 2 ** count)

    def test_unsatisfiable(self):
        self.check(UNSATISFIABLE, 0)
        self.check(grammar_of("a b c d e f g h i j k l", "either l l", "excludes l l"), 0)

    def test_clauses_that_name_one_option_twice(self):
        self.check(grammar_of("a b", "needs a a"), 4)
        self.check(grammar_of("a b", "either a a"), 2)
        self.check(grammar_of("a b", "excludes b b"), 2)
        self.check(grammar_of("a b", "excludes b b", "either a a"), 1)

    def test_twelve_options(self):
        names = "a b c d e f g h i j k l"
        self.check(grammar_of(names, "needs a b"), 3072)
        self.check(grammar_of(names, "either a a", "excludes l l"), 1024)

    def test_invalid_grammar(self):
        check_invalid_grammars(self, count_accepted)

    def test_against_search(self):
        for grammar in grammars_for_search(17) + large_grammars(18, 3):
            self.check(grammar, len(accepted_by_search(grammar)))


class RequiredAndImpossibleTest(unittest.TestCase):
    def check(self, grammar, required, impossible):
        self.assertEqual(always_required(grammar), required.split())
        self.assertEqual(never_possible(grammar), impossible.split())

    def test_example(self):
        grammar = ((("a", "", None), ("b", "", None)), (0, 0), (("either", "a", "a"), ("excludes", "a", "b")))
        self.assertEqual([always_required(grammar), never_possible(grammar)], [["a"], ["b"]])

    def test_none(self):
        self.check(EXAMPLE, "", "")
        self.check(grammar_of("a b"), "", "")
        self.check(grammar_of("a b", "either a b", "excludes a b"), "", "")

    def test_clauses_that_name_one_option_twice(self):
        self.check(grammar_of("a", "needs a a"), "", "")
        self.check(grammar_of("a", "either a a"), "a", "")
        self.check(grammar_of("a", "excludes a a"), "", "a")

    def test_over_several_steps(self):
        self.check(grammar_of("a b c", "either a b", "needs b c", "needs c a"), "a", "")
        self.check(grammar_of("a b c", "needs a b", "needs b c", "excludes c a"), "", "a")

    def test_order_is_that_of_the_grammar(self):
        clauses = ("either a a", "needs a b", "either d d", "excludes c c", "excludes a e")
        self.check(grammar_of("d b a e c", *clauses), "d b a", "e c")
        self.check(grammar_of("c a e b d", *clauses), "a b d", "c e")

    def test_all(self):
        self.check(grammar_of("b a", "either a a", "either b b"), "b a", "")
        self.check(grammar_of("b a", "excludes a a", "excludes b b"), "", "b a")

    def test_errors(self):
        for function in (always_required, never_possible):
            check_invalid_grammars(self, function)
            check_error(self, Unsatisfiable(), function, UNSATISFIABLE)

    def test_against_search(self):
        for grammar in grammars_for_search(19, 200, 10) + large_grammars(20, 3):
            accepted = accepted_by_search(grammar)
            if accepted:
                names = names_in(grammar)
                required = [name for name in names if all(name in chosen for chosen in accepted)]
                impossible = [name for name in names if not any(name in chosen for chosen in accepted)]
                self.check(grammar, " ".join(required), " ".join(impossible))
            else:
                for function in (always_required, never_possible):
                    check_error(self, Unsatisfiable(), function, grammar)


class OptionGroupsTest(unittest.TestCase):
    def check(self, grammar, *groups):
        self.assertEqual(option_groups(grammar), [group.split() for group in groups])

    def test_example(self):
        options = (("a", "", None), ("b", "", None), ("c", "", None))
        found = option_groups((options, (0, 0), (("needs", "a", "c"), ("needs", "c", "a"))))
        self.assertEqual(found, [["a", "c"], ["b"]])

    def test_single_options(self):
        self.check(EXAMPLE, "sign", "key", "raw")
        self.check(grammar_of("a"), "a")
        self.check(grammar_of("c a b"), "c", "a", "b")

    def test_always_and_never_given_options(self):
        self.check(grammar_of("a b c d e", "either b b", "either d d", "excludes c c", "excludes e a", "either a e"),
                   "a", "b d", "c", "e")
        self.check(grammar_of("d c b a", "either a a", "excludes b b", "excludes c c", "needs a d"), "d a", "c b")

    def test_all_options(self):
        self.check(grammar_of("c a d b", "needs a b", "needs b c", "needs c d", "needs d a"), "c a d b")
        self.check(grammar_of("b a", "excludes a a", "excludes b b"), "b a")
        self.check(grammar_of("b a", "either a a", "needs a b"), "b a")

    def test_orders(self):
        clauses = ("needs a b", "needs b a", "needs c d", "needs d c")
        self.check(grammar_of("d b e a c", *clauses), "d c", "b a", "e")
        self.check(grammar_of("e a c b d", *clauses), "e", "a b", "c d")

    def test_needs_one_way_only(self):
        self.check(grammar_of("a b", "needs a b"), "a", "b")
        self.check(grammar_of("a b c", "needs a b", "excludes a c"), "a", "b", "c")

    def test_opposites_are_apart(self):
        self.check(grammar_of("a b", "either a b", "excludes a b"), "a", "b")
        self.check(grammar_of("a b c", "either a b", "excludes a b", "either b c", "excludes b c"), "a c", "b")

    def test_kinds_of_values(self):
        found = option_groups(EXAMPLE)
        self.assertEqual([type(found), type(found[0])], [list, list])

    def test_errors(self):
        check_invalid_grammars(self, option_groups)
        check_error(self, Unsatisfiable(), option_groups, UNSATISFIABLE)

    def test_against_search(self):
        for grammar in grammars_for_search(23, 200) + large_grammars(24, 3):
            accepted = accepted_by_search(grammar)
            if not accepted:
                check_error(self, Unsatisfiable(), option_groups, grammar)
                continue
            names = names_in(grammar)
            expected = []
            for name in names:
                group = [
                    other for other in names if all((name in chosen) == (other in chosen) for chosen in accepted)
                ]
                if group not in expected:
                    expected.append(group)
            self.assertEqual(option_groups(grammar), expected)


class ArgumentsAndValuesTest(unittest.TestCase):
    def test_arguments_are_not_changed(self):
        names = ["key", "sign", "key"]
        before = copy.deepcopy(EXAMPLE)
        is_accepted(EXAMPLE, names)
        for function in WITHOUT_NAMES:
            function(EXAMPLE)
        self.assertEqual((names, EXAMPLE), (["key", "sign", "key"], before))

    def test_returned_values_may_be_changed(self):
        required = grammar_of("a b", "either a a", "excludes b b")
        for _ in range(2):
            there, back = contradiction(UNSATISFIABLE)
            self.assertEqual((there, back), (literals("-a +a"), literals("+a -a")))
            there.append(back.pop())
            for function, value in ((always_required, ["a"]), (never_possible, ["b"])):
                found = function(required)
                self.assertEqual(found, value)
                found.clear()
            groups = option_groups(EXAMPLE)
            self.assertEqual(groups, [["sign"], ["key"], ["raw"]])
            groups[0].append("more")
            groups.pop()

    def test_an_error_changes_no_later_call(self):
        for _ in range(2):
            check_error(self, UnknownOption("x"), is_accepted, EXAMPLE, ["key", "x"])
            check_error(self, Unsatisfiable(), option_groups, UNSATISFIABLE)
            self.assertIs(is_accepted(EXAMPLE, ["key"]), True)
            self.assertEqual(count_accepted(EXAMPLE), 4)


if __name__ == "__main__":
    unittest.main()
