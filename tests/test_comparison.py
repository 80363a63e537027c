"""flagclause/comparison.py: points 1, 10 and 11."""

import copy
import itertools
import random
import unittest

from flagclause import comparison
from flagclause.comparison import (
    counterexample, first_difference, implied, missing_clause, redundant_clauses, reduce_clauses,
)
from flagclause.errors import DifferentOptions, InvalidClause, InvalidGrammar, Unsatisfiable
from tests.helper import (
    EXAMPLE, INVALID_GRAMMARS, accepted_by_search, all_sets, best_chain, check_defined_in, check_error,
    check_invalid_grammars, flags, grammar_of, grammars_for_search, is_met, is_step, large_grammars, literals,
    names_in, random_clauses,
)

UNSATISFIABLE = grammar_of("a b", "either a a", "excludes a a")
NOT_CLAUSES = (
    None, 0, 1, True, "", "needs", (), ("needs",), ("needs", "a"), ("needs", "a", "b", "b"), ["needs", "a", "b"], [],
    ("need", "a", "b"), ("", "a", "b"), (None, "a", "b"), (["needs"], "a", "b"), ("a", "needs", "b"),
    ("needs", "a", "c"), ("excludes", "c", "a"), ("either", "", "a"), ("needs", "a", None), ("needs", 0, "a"),
    ("needs", "a", ["b"]), ("needs", ("a",), "b"), ("needs", "a", True),
)


def clauses_about(grammar):
    """Return all clauses about options of a grammar."""
    names = names_in(grammar)
    return list(itertools.product(("needs", "excludes", "either"), names, names))


def ends_of(clause):
    """Return the pairs of a start and a goal of the chains by which a clause is implied."""
    word, first, second = clause
    truths = {"needs": (False, True), "excludes": (False, False), "either": (True, True)}[word]
    goals = [(first, truths[0]), (second, truths[1])]
    return [((name, not truth), goal) for name, truth in goals for goal in goals]


def with_clauses(grammar, clauses):
    return (grammar[0], grammar[1], tuple(clauses))


def follows(grammar, clause):
    """Return whether every accepted set satisfies a clause."""
    return all(is_met(clause, chosen) for chosen in accepted_by_search(grammar))


def follows_from_others(grammar, index):
    clauses = grammar[2]
    return follows(with_clauses(grammar, clauses[:index] + clauses[index + 1:]), clauses[index])


class FileTest(unittest.TestCase):
    def test_defined_here(self):
        check_defined_in(
            self, comparison, implied, counterexample, redundant_clauses, reduce_clauses, missing_clause,
            first_difference,
        )


class ImpliedTest(unittest.TestCase):
    def check(self, grammar, clause, chain, example):
        """Check the chain by which a clause is implied, or the example against it."""
        clause = tuple(clause.split())
        self.assertEqual(implied(grammar, clause), None if chain is None else literals(chain))
        self.assertEqual(counterexample(grammar, clause), None if example is None else example.split())

    def test_examples(self):
        self.assertEqual(
            implied(EXAMPLE, ("excludes", "raw", "sign")), [("raw", True), ("key", False), ("sign", False)],
        )
        self.assertIsNone(implied(EXAMPLE, ("needs", "key", "sign")))
        self.assertEqual(counterexample(EXAMPLE, ("needs", "key", "sign")), ["key"])

    def test_kinds_of_values(self):
        self.assertIs(type(implied(EXAMPLE, ("needs", "sign", "key"))), list)
        self.assertIs(type(counterexample(EXAMPLE, ("either", "sign", "key"))), list)

    def test_clauses_of_the_grammar(self):
        # Of the two chains of one step, the smaller one is returned.
        self.check(EXAMPLE, "needs sign key", "-key -sign", None)
        self.check(EXAMPLE, "excludes key raw", "+key -raw", None)
        self.check(EXAMPLE, "excludes raw key", "+key -raw", None)
        self.check(grammar_of("a b", "needs a b"), "needs a b", "+a +b", None)
        self.check(grammar_of("b a", "either b a"), "either b a", "-a +b", None)

    def test_not_implied(self):
        self.check(EXAMPLE, "either sign key", None, "")
        self.check(EXAMPLE, "excludes sign key", None, "key sign")
        self.check(EXAMPLE, "needs raw key", None, "raw")
        self.check(EXAMPLE, "needs raw sign", None, "raw")
        self.check(EXAMPLE, "either key raw", None, "")

    def test_over_several_steps(self):
        grammar = grammar_of("a b c d e", "needs a b", "needs b c", "needs c d", "excludes d e")
        self.check(grammar, "needs a d", "+a +b +c +d", None)
        self.check(grammar, "excludes e a", "+a +b +c +d -e", None)
        self.check(grammar, "excludes a e", "+a +b +c +d -e", None)
        self.check(grammar, "needs d a", None, "d")
        grammar = grammar_of("c b a", "either c b", "needs b a")
        self.check(grammar, "either c a", "-a -b +c", None)

    def test_a_required_or_impossible_option(self):
        grammar = grammar_of("a b c", "either b b", "excludes c c")
        self.check(grammar, "needs a b", "-b +b", None)
        self.check(grammar, "either a b", "-b +b", None)
        self.check(grammar, "either b a", "-b +b", None)
        self.check(grammar, "excludes a c", "+c -c", None)
        self.check(grammar, "needs c a", "+c -c", None)
        self.check(grammar, "needs c b", "-b +b", None)
        self.check(grammar, "needs b a", None, "b")
        self.check(grammar, "excludes a b", None, "a b")

    def test_from_one_literal_to_its_contrary_over_several_steps(self):
        grammar = grammar_of("a b c d", "needs a b", "needs b c", "excludes c a")
        self.check(grammar, "needs a d", "+a +b +c -a", None)
        self.check(grammar, "excludes d a", "+a +b +c -a", None)
        self.check(grammar, "excludes c a", "+a -c", None)

    def test_shortest_of_all_four_kinds_of_chains(self):
        self.check(grammar_of("a b c", "excludes a a", "needs a c", "needs c b"), "needs a b", "+a -a", None)
        self.check(grammar_of("a b", "excludes a a", "needs a b"), "needs a b", "+a -a", None)
        self.check(grammar_of("a b c", "excludes a c", "either c b", "needs a c"), "needs a b", "+a -c -a", None)
        self.check(grammar_of("a b c", "either b b", "excludes a a"), "needs a b", "+a -a", None)
        self.check(grammar_of("z b c", "either b b", "excludes z z"), "needs z b", "-b +b", None)

    def test_ties(self):
        clauses = ("needs a y", "needs y z", "needs a x", "needs x z")
        self.check(grammar_of("a x y z", *clauses), "needs a z", "+a +x +z", None)
        self.check(grammar_of("z y x a", *reversed(clauses)), "needs a z", "+a +x +z", None)

    def test_clauses_that_name_one_option_twice(self):
        self.check(EXAMPLE, "needs key key", "-key", None)
        self.check(grammar_of("a", "either a a"), "needs a a", "-a", None)
        self.check(grammar_of("a", "either a a"), "either a a", "-a +a", None)
        self.check(grammar_of("a", "either a a"), "excludes a a", None, "a")
        self.check(grammar_of("a", "excludes a a"), "excludes a a", "+a -a", None)
        self.check(grammar_of("a", "excludes a a"), "either a a", None, "")
        self.check(grammar_of("a b", "needs a b", "excludes a b"), "excludes a a", "+a -b -a", None)
        self.check(grammar_of("a b"), "either b b", None, "")
        self.check(grammar_of("a b"), "excludes b b", None, "b")

    def test_smallest_counterexample(self):
        grammar = grammar_of("d c b a", "either a b", "either c d")
        self.check(grammar, "needs a b", None, "a c")
        self.check(grammar, "needs d a", None, "b d")
        self.check(grammar, "excludes b d", None, "b d")
        self.check(grammar, "either a c", None, "b d")
        self.check(grammar_of("z a b c", "either z a", "either z b"), "either z c", None, "a b")
        self.check(grammar_of("z b a", "either a b"), "excludes z z", None, "a z")

    def test_errors_in_order(self):
        for function in (implied, counterexample):
            for clause in (("needs", "a", "a"), ("needs", "x", "y"), None):
                check_invalid_grammars(self, function, clause)
            for clause in NOT_CLAUSES:
                with self.subTest((function.__name__, clause)):
                    check_error(self, InvalidClause(), function, grammar_of("a b", "needs a b"), clause)
                    check_error(self, InvalidClause(), function, UNSATISFIABLE, clause)
            for clause in (("needs", "a", "b"), ("either", "a", "a"), ("needs", "b", "b")):
                check_error(self, Unsatisfiable(), function, UNSATISFIABLE, clause)

    def test_against_search(self):
        counts = {True: 0, False: 0}
        for grammar in grammars_for_search(53, 100):
            accepted = accepted_by_search(grammar)
            for clause in clauses_about(grammar):
                if not accepted:
                    check_error(self, Unsatisfiable(), implied, grammar, clause)
                    check_error(self, Unsatisfiable(), counterexample, grammar, clause)
                    continue
                against = [chosen for chosen in accepted if not is_met(clause, chosen)]
                chain = best_chain(grammar, ends_of(clause))
                counts[chain is None] += 1
                self.assertEqual(chain is None, against != [])
                self.assertEqual(implied(grammar, clause), chain, (grammar, clause))
                self.assertEqual(counterexample(grammar, clause), against[0] if against else None)
        self.assertGreater(min(counts.values()), 200, counts)

    def test_twelve_options_and_sixty_clauses(self):
        source = random.Random(59)
        for grammar in large_grammars(61, 3):
            accepted = accepted_by_search(grammar)
            for clause in random_clauses(source, names_in(grammar), 40):
                against = [chosen for chosen in accepted if not is_met(clause, chosen)]
                self.assertEqual(counterexample(grammar, clause), against[0] if against else None)
                chain = implied(grammar, clause)
                self.assertEqual(chain is None, against != [])
                if chain is not None:
                    self.assertIn((chain[0], chain[-1]), ends_of(clause))
                    self.assertTrue(all(is_step(grammar, one, two) for one, two in itertools.pairwise(chain)))


class RedundantTest(unittest.TestCase):
    def check(self, grammar, redundant, kept):
        """Check the redundant clauses, and the indexes of those that are kept."""
        self.assertEqual(redundant_clauses(grammar), [int(index) for index in redundant.split()])
        expected = with_clauses(grammar, [grammar[2][int(index)] for index in kept.split()])
        self.assertEqual(reduce_clauses(grammar), expected)

    def test_examples(self):
        options = (("a", "", None), ("b", "", None))
        clauses = (("needs", "a", "b"), ("needs", "a", "b"), ("excludes", "b", "b"))
        self.assertEqual(redundant_clauses((options, (0, 0), clauses)), [0, 1])
        found = reduce_clauses((options, (0, 0), (("needs", "a", "b"), ("needs", "a", "b"))))
        self.assertEqual(found[2], (("needs", "a", "b"),))

    def test_none(self):
        self.check(EXAMPLE, "", "0 1")
        self.check(grammar_of("a b"), "", "")
        self.check(grammar_of("a b", "either a b"), "", "0")

    def test_repeated_clauses(self):
        self.check(grammar_of("a b", "needs a b", "needs a b"), "0 1", "0")
        self.check(grammar_of("a b", "needs a b", "needs a b", "needs a b"), "0 1 2", "0")
        self.check(grammar_of("a b", "excludes a b", "excludes b a"), "0 1", "0")
        self.check(grammar_of("a b", "either b a", "either a b"), "0 1", "0")
        self.check(grammar_of("a b", "needs b a", "needs a b"), "", "0 1")

    def test_clauses_that_name_one_option_twice(self):
        self.check(grammar_of("a b", "needs a a"), "0", "")
        self.check(grammar_of("a b", "needs a a", "needs b b", "either a a"), "0 1", "2")
        self.check(grammar_of("a b", "needs a b", "needs a b", "excludes b b"), "0 1", "0 2")
        self.check(grammar_of("a b", "either a a", "either a b"), "1", "0")
        self.check(grammar_of("a b", "either a b", "either b b", "needs b a"), "0", "1 2")

    def test_clauses_that_follow_from_two_others(self):
        self.check(grammar_of("a b c", "needs a b", "needs b c", "needs a c"), "2", "0 1")
        self.check(grammar_of("a b c", "needs a c", "needs a b", "needs b c"), "0", "1 2")
        self.check(grammar_of("a b c", "needs a b", "excludes c b", "excludes a c"), "2", "0 1")
        self.check(grammar_of("a b", "needs a b", "excludes a b", "excludes a a"), "0 1 2", "0 1")
        self.check(grammar_of("a b", "excludes a a", "needs a b", "excludes a b"), "0 1 2", "0")

    def test_cycles(self):
        self.check(grammar_of("a b c", "needs a b", "needs b c", "needs c a"), "", "0 1 2")
        self.check(grammar_of("a b c", "needs a b", "needs b c", "needs c a", "needs b a"), "3", "0 1 2")
        self.check(
            grammar_of("a b c", "needs a b", "needs b a", "needs b c", "needs c b", "needs a c", "needs c a"),
            "0 1 2 3 4 5", "0 1 2 3",
        )
        self.check(
            grammar_of("a b c", "needs b a", "needs b c", "needs c a", "needs a b", "needs a c", "needs c b"),
            "0 1 2 3 4 5", "1 2 3",
        )

    def test_order_counts(self):
        # Each clause follows from the others, but only two of them can go.
        clauses = ("either a a", "needs a b", "either b b", "needs b a")
        self.check(grammar_of("a b", *clauses), "0 1 2 3", "0 1")
        self.check(grammar_of("a b", *reversed(clauses)), "0 1 2 3", "0 1")
        clauses = ("either b b", "either a a", "needs a b", "needs b a")
        self.check(grammar_of("a b", *clauses), "0 1 2 3", "0 1")

    def test_options_and_positionals_are_kept(self):
        options = (("a", "x", ("int", 0, 0)), ("b", "", ("choice", ("c",))))
        grammar = (options, (3, 9), (("needs", "a", "b"), ("needs", "a", "a")))
        found = reduce_clauses(grammar)
        self.assertEqual(found, (options, (3, 9), (("needs", "a", "b"),)))
        self.assertEqual([type(found), type(found[2])], [tuple, tuple])

    def test_errors(self):
        for function in (redundant_clauses, reduce_clauses):
            check_invalid_grammars(self, function)
            check_error(self, Unsatisfiable(), function, UNSATISFIABLE)
            check_error(self, Unsatisfiable(), function, grammar_of("a b", "either a a", "excludes a a", "either a a"))

    def reduced_by_search(self, grammar):
        found = grammar
        for index in range(len(grammar[2]) - 1, -1, -1):
            if follows_from_others(found, index):
                found = with_clauses(grammar, found[2][:index] + found[2][index + 1:])
        return found

    def test_against_search(self):
        count = 0
        for grammar in grammars_for_search(67, 150, 10):
            if accepted_by_search(grammar):
                expected = [index for index in range(len(grammar[2])) if follows_from_others(grammar, index)]
                reduced = self.reduced_by_search(grammar)
                self.assertEqual(redundant_clauses(grammar), expected)
                self.assertEqual(reduce_clauses(grammar), reduced)
                count += len(reduced[2]) > len(grammar[2]) - len(expected)
            else:
                check_error(self, Unsatisfiable(), redundant_clauses, grammar)
                check_error(self, Unsatisfiable(), reduce_clauses, grammar)
        self.assertGreater(count, 20)

    def test_twelve_options_and_sixty_clauses(self):
        for grammar in large_grammars(71, 2):
            reduced = reduce_clauses(grammar)
            self.assertEqual(reduced[:2], grammar[:2])
            self.assertEqual(accepted_by_search(reduced), accepted_by_search(grammar))
            self.assertEqual(redundant_clauses(reduced), [])
            redundant = redundant_clauses(grammar)
            for index in range(0, 60, 7):
                self.assertEqual(follows_from_others(grammar, index), index in redundant)


class TwoGrammarsTest(unittest.TestCase):
    """What missing_clause and first_difference raise."""

    def check(self, expected, grammar, other):
        for function in (missing_clause, first_difference):
            with self.subTest(function.__name__):
                check_error(self, expected, function, grammar, other)

    def test_invalid_grammars_come_first(self):
        for function in (missing_clause, first_difference):
            for other in (EXAMPLE, UNSATISFIABLE, grammar_of("b b b"), None):
                check_invalid_grammars(self, function, other)

    def test_invalid_other_grammars_come_next(self):
        for other, part, index in INVALID_GRAMMARS:
            for grammar in (EXAMPLE, UNSATISFIABLE, grammar_of("a")):
                with self.subTest((part, index)):
                    self.check(InvalidGrammar(part, index), grammar, other)

    def test_different_options(self):
        for one, two in (
            ("a", "b"), ("a b", "a"), ("a", "a b"), ("a b", "a c"), ("a b c", "c b d"), ("ab", "a-b"), ("a b", "ab"),
        ):
            self.check(DifferentOptions(), grammar_of(one), grammar_of(two))
            self.check(DifferentOptions(), grammar_of(two), grammar_of(one))

    def test_different_options_come_before_unsatisfiable(self):
        self.check(DifferentOptions(), UNSATISFIABLE, grammar_of("a"))
        self.check(DifferentOptions(), UNSATISFIABLE, grammar_of("a c", "either c c", "excludes c c"))
        self.check(DifferentOptions(), grammar_of("a"), UNSATISFIABLE)


class MissingClauseTest(unittest.TestCase):
    def check(self, grammar, other, expected):
        found = missing_clause(grammar, other)
        self.assertEqual((found, type(found)), (expected, type(expected)))

    def test_example(self):
        other = (EXAMPLE[0], (0, 0), (("excludes", "sign", "raw"), ("either", "sign", "raw")))
        self.check(EXAMPLE, other, 1)

    def test_same_clauses(self):
        self.check(EXAMPLE, EXAMPLE, None)
        self.check(EXAMPLE, with_clauses(EXAMPLE, reversed(EXAMPLE[2])), None)
        self.check(EXAMPLE, with_clauses(EXAMPLE, EXAMPLE[2] * 3), None)

    def test_fewer_clauses(self):
        self.check(EXAMPLE, with_clauses(EXAMPLE, ()), None)
        self.check(EXAMPLE, with_clauses(EXAMPLE, EXAMPLE[2][1:]), None)

    def test_more_clauses(self):
        self.check(with_clauses(EXAMPLE, ()), EXAMPLE, 0)
        self.check(with_clauses(EXAMPLE, EXAMPLE[2][:1]), EXAMPLE, 1)
        self.check(with_clauses(EXAMPLE, EXAMPLE[2][1:]), EXAMPLE, 0)

    def test_implied_clauses(self):
        grammar = grammar_of("a b c", "needs a b", "needs b c")
        self.check(grammar, grammar_of("a b c", "needs a c", "needs b b", "needs a b"), None)
        self.check(grammar, grammar_of("a b c", "needs a c", "needs c a", "needs c b"), 1)

    def test_first_missing_clause_counts(self):
        self.check(grammar_of("a b"), grammar_of("a b", "needs a a", "either b a", "excludes a b"), 1)

    def test_other_orders_kinds_and_positionals(self):
        options = (("raw", "r", ("int", 1, 2)), ("sign", "", ("word",)), ("key", "s", None))
        self.check(EXAMPLE, (options, (7, 9), EXAMPLE[2]), None)
        self.check((options, (7, 9), EXAMPLE[2]), EXAMPLE, None)
        self.check(EXAMPLE, (options, (7, 9), (("needs", "key", "sign"),)), 0)

    def test_first_grammar_unsatisfiable(self):
        for other in (UNSATISFIABLE, grammar_of("a b"), grammar_of("b a", "needs a b")):
            check_error(self, Unsatisfiable(), missing_clause, UNSATISFIABLE, other)

    def test_second_grammar_unsatisfiable(self):
        self.check(grammar_of("a b"), UNSATISFIABLE, 0)
        self.check(grammar_of("a b", "either a a"), UNSATISFIABLE, 1)
        self.check(grammar_of("a b", "excludes a a"), UNSATISFIABLE, 0)

    def test_against_search(self):
        source = random.Random(73)
        for grammar in grammars_for_search(79, 150) + large_grammars(83, 3):
            names = names_in(grammar)
            clauses = random_clauses(source, names, 4) + grammar[2][:3]
            other = (flags(*source.sample(names, len(names))), (1, 2), clauses)
            if accepted_by_search(grammar):
                missing = [index for index, clause in enumerate(other[2]) if not follows(grammar, clause)]
                self.check(grammar, other, missing[0] if missing else None)
            else:
                check_error(self, Unsatisfiable(), missing_clause, grammar, other)


class FirstDifferenceTest(unittest.TestCase):
    def check(self, grammar, other, names, accepted=None):
        """Check the first difference from both sides."""
        expected = None if names is None else (names.split(), accepted)
        turned = None if names is None else (names.split(), not accepted)
        for one, two, value in ((grammar, other, expected), (other, grammar, turned)):
            found = first_difference(one, two)
            self.assertEqual(found, value)
            if found is not None:
                self.assertEqual([type(found), type(found[0]), type(found[1])], [tuple, list, bool])

    def test_example(self):
        other = (EXAMPLE[0], (0, 0), EXAMPLE[2][:1])
        self.assertEqual(first_difference(EXAMPLE, other), (["key", "raw"], False))

    def test_none(self):
        self.check(EXAMPLE, EXAMPLE, None)
        self.check(EXAMPLE, with_clauses(EXAMPLE, reversed(EXAMPLE[2])), None)
        self.check(grammar_of("a b"), grammar_of("b a", "needs a a"), None)
        self.check(grammar_of("a b c", "needs a b", "needs b c"),
                   grammar_of("c b a", "needs a c", "needs a b", "needs b c"), None)

    def test_other_orders_kinds_and_positionals(self):
        options = (("raw", "r", ("int", 1, 2)), ("sign", "", ("word",)), ("key", "s", None))
        self.check(EXAMPLE, (options, (7, 9), EXAMPLE[2]), None)
        self.check(EXAMPLE, (options, (7, 9), EXAMPLE[2][1:]), "sign", False)

    def test_fewest_options(self):
        self.check(grammar_of("a b"), grammar_of("a b", "either a b"), "", True)
        self.check(grammar_of("a b"), grammar_of("a b", "excludes a b"), "a b", True)
        self.check(grammar_of("a b c", "either b b", "either c c"), grammar_of("a b c", "either a a"), "a", False)

    def test_ties(self):
        self.check(grammar_of("c b a", "excludes c c"), grammar_of("c b a", "excludes b b"), "b", True)
        self.check(grammar_of("c b a", "excludes b c"), grammar_of("c b a", "excludes a c"), "a c", True)
        self.check(grammar_of("b ab a-b", "excludes b b"), grammar_of("b ab a-b", "excludes ab ab", "excludes a-b a-b"),
                   "a-b", True)

    def test_one_grammar_unsatisfiable(self):
        self.check(UNSATISFIABLE, grammar_of("a b"), "", False)
        self.check(UNSATISFIABLE, grammar_of("a b", "either b b", "needs b a"), "a b", False)

    def test_both_grammars_unsatisfiable(self):
        self.check(UNSATISFIABLE, UNSATISFIABLE, None)
        self.check(UNSATISFIABLE, grammar_of("b a", "either b b", "excludes b b"), None)

    def test_all_options(self):
        names = "a b c d e f g h i j k l"
        some = [f"either {name} {name}" for name in names.split()[:11]]
        self.check(grammar_of(names, *some, "excludes l l"), grammar_of(names, *some, "either l l"), names[:-2], True)
        self.check(grammar_of(names, *some, "either l l"), grammar_of(names, *some, "either l l", "excludes l l"),
                   names, True)

    def test_against_search(self):
        source = random.Random(89)
        counts = {None: 0, False: 0, True: 0}
        for grammar in grammars_for_search(97, 200) + large_grammars(101, 4):
            names = names_in(grammar)
            clauses = source.sample(grammar[2], len(grammar[2]) * 3 // 4) + list(random_clauses(source, names, 1))
            other = (flags(*source.sample(names, len(names))), (1, 2), tuple(clauses))
            one, two = accepted_by_search(grammar), accepted_by_search(other)
            expected = None
            for chosen in all_sets(grammar):
                if expected is None and (chosen in one) != (chosen in two):
                    expected = (chosen, chosen in one)
            counts[None if expected is None else expected[1]] += 1
            self.assertEqual(first_difference(grammar, other), expected)
        self.assertGreater(min(counts.values()), 20, counts)


class ArgumentsAndValuesTest(unittest.TestCase):
    def test_arguments_are_not_changed(self):
        before, other = copy.deepcopy(EXAMPLE), grammar_of("raw key sign", "needs raw raw")
        for function, argument in (
            (implied, ("needs", "sign", "raw")), (counterexample, ("needs", "sign", "raw")),
            (missing_clause, other), (first_difference, other),
        ):
            function(EXAMPLE, argument)
        redundant_clauses(EXAMPLE)
        reduce_clauses(EXAMPLE)
        self.assertEqual((EXAMPLE, other), (before, grammar_of("raw key sign", "needs raw raw")))

    def test_returned_values_may_be_changed(self):
        twice = with_clauses(EXAMPLE, EXAMPLE[2] * 2)
        other = with_clauses(EXAMPLE, ())
        for _ in range(2):
            for function, arguments, value in (
                (implied, (EXAMPLE, ("needs", "sign", "key")), literals("-key -sign")),
                (counterexample, (EXAMPLE, ("needs", "key", "sign")), ["key"]),
                (redundant_clauses, (twice,), [0, 1, 2, 3]),
            ):
                found = function(*arguments)
                self.assertEqual(found, value)
                found.clear()
            names, accepted = first_difference(other, EXAMPLE)
            self.assertEqual((names, accepted), (["sign"], True))
            names.append("more")

    def test_an_error_changes_no_later_call(self):
        for _ in range(2):
            check_error(self, InvalidClause(), implied, EXAMPLE, ("needs", "sign", "x"))
            check_error(self, DifferentOptions(), first_difference, EXAMPLE, grammar_of("sign"))
            self.assertEqual(implied(EXAMPLE, ("needs", "sign", "key")), literals("-key -sign"))
            self.assertIsNone(first_difference(EXAMPLE, EXAMPLE))


if __name__ == "__main__":
    unittest.main()
