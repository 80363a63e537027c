"""flagclause/evidence.py: points 1, 5 and 8."""

import copy
import itertools
import random
import unittest

from flagclause import evidence
from flagclause.errors import InvalidChain, InvalidClause, UnknownOption
from flagclause.evidence import (
    check_chain, describe, judge, shows_conflict, shows_contradiction, shows_implied,
)
from tests.helper import (
    EXAMPLE, NO_NAMES, NO_PAIRS, all_literals, check_defined_in, check_error, check_invalid_grammars, flags,
    grammar_of, grammars_for_search, is_step, literals, opposite,
)

CONTRADICTORY = grammar_of("a", "either a a", "excludes a a")
NOT_CLAUSES = (
    None, 0, True, "", "needs", (), [], ("needs", "sign"), ("needs", "sign", "key", "key"), ["needs", "sign", "key"],
    ("need", "sign", "key"), ("needs", "sign", "keys"), ("needs", "s", "key"), ("excludes", None, "key"),
    ("either", "key", ["key"]), (None, "key", "key"), ("sign", "needs", "key"),
)

# Each with what it is called with before the chain.
CALLS = (
    (check_chain, ()), (describe, ()), (judge, (["sign"], "key")), (shows_conflict, (["sign"],)),
    (shows_implied, (("needs", "sign", "key"),)),
)


class FileTest(unittest.TestCase):
    def test_defined_here(self):
        check_defined_in(
            self, evidence, check_chain, describe, judge, shows_conflict, shows_implied, shows_contradiction,
        )


class InvalidChainTest(unittest.TestCase):
    """What all functions that take a chain of EXAMPLE raise."""

    def check(self, chain, index):
        for function, arguments in CALLS:
            with self.subTest(function.__name__):
                check_error(self, InvalidChain(index), function, EXAMPLE, *arguments, chain)
        valid = literals("+sign +key")
        check_error(self, InvalidChain(index), shows_contradiction, EXAMPLE, (chain, valid))
        check_error(self, InvalidChain(index), shows_contradiction, EXAMPLE, (valid, chain))

    def test_example(self):
        check_error(self, InvalidChain(1), check_chain, EXAMPLE, [("raw", True), ("sign", False)])

    def test_empty_list(self):
        self.check([], 0)

    def test_not_a_list(self):
        for chain in (None, 0, 5, True, False, "", "sign", (), (("sign", True),), ("sign", True),
                      tuple(literals("+sign +key"))):
            with self.subTest(chain):
                self.check(chain, 0)

    def test_not_a_pair_with_a_truth(self):
        for item in NO_PAIRS:
            with self.subTest(item):
                self.check([item], 0)
                self.check([item] + literals("+key -raw"), 0)
                self.check(literals("+sign") + [item], 1)
                self.check(literals("+sign") + [item] + literals("-raw"), 1)
                self.check(literals("+sign +key -raw") + [item], 3)

    def test_unknown_names(self):
        for name in NO_NAMES:
            for truth in (True, False):
                with self.subTest((name, truth)):
                    self.check([(name, truth)], 0)
                    self.check([("sign", True), (name, truth)], 1)
                    self.check([("raw", True), ("key", False), (name, truth)], 2)

    def test_no_step(self):
        for text, index in (
            ("+sign -key", 1), ("+sign -raw", 1), ("+sign +sign", 1), ("-sign -key", 1), ("-sign -sign", 1),
            ("+key +sign", 1), ("-raw +key", 1), ("-raw -key", 1), ("+sign -sign", 1), ("-key -sign -raw", 2),
            ("+raw -key -sign +sign", 3), ("+sign +key -raw -sign", 3),
        ):
            with self.subTest(text):
                self.check(literals(text), index)

    def test_first_invalid_item_counts(self):
        self.check(literals("+sign -key") + [None], 1)
        self.check([None, None], 0)
        self.check(literals("+x +key"), 0)
        self.check(literals("+sign +key +sign") + [5], 2)
        self.check(literals("+sign +x -x"), 1)

    def test_no_clause_leads_twice(self):
        self.check(literals("+key -raw +key"), 2)


class CheckChainTest(unittest.TestCase):
    def check(self, grammar, chain, *clauses):
        found = check_chain(grammar, literals(chain))
        self.assertEqual(found, [tuple(clause.split()) for clause in clauses])
        self.assertIs(type(found), list)

    def test_example(self):
        found = check_chain(EXAMPLE, [("raw", True), ("key", False)])
        self.assertEqual(found, [("excludes", "key", "raw")])

    def test_one_literal(self):
        for item in all_literals(EXAMPLE):
            self.assertEqual(check_chain(EXAMPLE, [item]), [])
        self.check(grammar_of("a"), "-a")

    def test_both_steps_of_each_word(self):
        self.check(grammar_of("a b", "needs a b"), "+a +b", "needs a b")
        self.check(grammar_of("a b", "needs a b"), "-b -a", "needs a b")
        self.check(grammar_of("a b", "excludes a b"), "+a -b", "excludes a b")
        self.check(grammar_of("a b", "excludes a b"), "+b -a", "excludes a b")
        self.check(grammar_of("a b", "either a b"), "-a +b", "either a b")
        self.check(grammar_of("a b", "either a b"), "-b +a", "either a b")

    def test_clauses_that_name_one_option_twice(self):
        self.check(grammar_of("a", "excludes a a"), "+a -a", "excludes a a")
        self.check(grammar_of("a", "either a a"), "-a +a", "either a a")
        self.check(grammar_of("a", "needs a a"), "+a +a", "needs a a")
        self.check(grammar_of("a", "needs a a"), "-a -a -a", "needs a a", "needs a a")

    def test_several_steps(self):
        self.check(EXAMPLE, "+sign +key -raw", "needs sign key", "excludes key raw")
        self.check(EXAMPLE, "+raw -key -sign", "excludes key raw", "needs sign key")

    def test_chains_need_not_be_the_shortest(self):
        grammar = grammar_of("a b c", "needs a b", "needs b a", "needs b c")
        self.check(grammar, "+a +b +a +b +c", "needs a b", "needs b a", "needs a b", "needs b c")

    def test_first_clause_counts(self):
        self.check(grammar_of("a b", "excludes b a", "excludes a b"), "+a -b", "excludes b a")
        self.check(grammar_of("a b", "excludes a b", "excludes b a"), "+a -b", "excludes a b")
        self.check(grammar_of("a b", "either b a", "either a b"), "-a +b", "either b a")
        self.check(grammar_of("a b", "needs b a", "either b a", "needs a b", "needs a b"), "+a +b", "needs a b")
        self.check(grammar_of("a b c", "needs b c", "needs a b"), "+a +b +c", "needs a b", "needs b c")

    def test_invalid_grammar_comes_first(self):
        for chain in ([("a", True)], [("x", True)], [], None):
            check_invalid_grammars(self, check_chain, chain)


class DescribeTest(unittest.TestCase):
    def check(self, grammar, chain, *texts):
        self.assertEqual(describe(grammar, literals(chain)), list(texts))

    def test_example(self):
        found = describe(EXAMPLE, [("sign", True), ("key", True), ("raw", False)])
        self.assertEqual(found, ["sign needs key: --key", "key excludes raw: no --raw"])

    def test_the_strings_of_the_document(self):
        grammar = grammar_of("sign key raw color", "needs sign key", "excludes raw color")
        self.check(grammar, "+sign +key", "sign needs key: --key")
        self.check(grammar, "+raw -color", "raw excludes color: no --color")

    def test_one_literal(self):
        self.check(EXAMPLE, "+sign")
        self.check(EXAMPLE, "-raw")

    def test_each_word_and_truth(self):
        self.check(grammar_of("a b-c", "needs a b-c"), "+a +b-c", "a needs b-c: --b-c")
        self.check(grammar_of("a b-c", "needs a b-c"), "-b-c -a", "a needs b-c: no --a")
        self.check(grammar_of("a b-c", "excludes a b-c"), "+a -b-c", "a excludes b-c: no --b-c")
        self.check(grammar_of("a b-c", "excludes a b-c"), "+b-c -a", "a excludes b-c: no --a")
        self.check(grammar_of("a b-c", "either a b-c"), "-a +b-c", "a either b-c: --b-c")
        self.check(grammar_of("a b-c", "either a b-c"), "-b-c +a", "a either b-c: --a")

    def test_first_clause_counts(self):
        self.check(grammar_of("a b", "excludes b a", "excludes a b"), "+a -b", "b excludes a: no --b")

    def test_clauses_that_name_one_option_twice(self):
        self.check(grammar_of("a", "excludes a a"), "+a -a", "a excludes a: no --a")
        self.check(grammar_of("a", "either a a", "needs a a"), "-a +a +a", "a either a: --a", "a needs a: --a")

    def test_invalid_grammar_comes_first(self):
        for chain in ([("a", True)], [("x", True)], [], None):
            check_invalid_grammars(self, describe, chain)


class JudgeTest(unittest.TestCase):
    def check(self, grammar, given, name, chain, expected):
        for names in (given.split(), tuple(given.split()), given.split() * 2):
            self.assertEqual(judge(grammar, names, name, literals(chain)), expected)

    def test_example(self):
        self.assertEqual(judge(EXAMPLE, ["sign"], "key", [("sign", True), ("key", True)]), "required")

    def test_required(self):
        self.check(EXAMPLE, "sign", "key", "+sign +key", "required")
        self.check(EXAMPLE, "raw key sign", "key", "+sign +key", "required")

    def test_impossible(self):
        self.check(EXAMPLE, "sign", "raw", "+sign +key -raw", "impossible")
        self.check(EXAMPLE, "raw", "sign", "+raw -key -sign", "impossible")
        self.check(EXAMPLE, "raw", "key", "+raw -key", "impossible")

    def test_ends_elsewhere(self):
        self.check(EXAMPLE, "sign", "raw", "+sign +key", None)
        self.check(EXAMPLE, "sign", "key", "+sign +key -raw", None)
        self.check(EXAMPLE, "sign", "sign", "+sign +key", None)

    def test_starts_elsewhere(self):
        self.check(EXAMPLE, "", "key", "+sign +key", None)
        self.check(EXAMPLE, "raw key", "key", "+sign +key", None)
        self.check(EXAMPLE, "sign", "raw", "+key -raw", None)
        # What is not given yet may be given later.
        self.check(EXAMPLE, "", "sign", "-key -sign", None)
        self.check(EXAMPLE, "key", "sign", "-key -sign", None)
        self.check(EXAMPLE, "sign key raw", "sign", "-key -sign", None)

    def test_starts_at_the_contrary_of_the_end(self):
        self.check(grammar_of("a b", "either a a"), "", "a", "-a +a", "required")
        self.check(grammar_of("a b", "either a a"), "b", "a", "-a +a", "required")
        self.check(grammar_of("a b", "excludes a a"), "", "a", "+a -a", "impossible")
        self.check(grammar_of("a b", "either a b", "needs b a"), "", "a", "-a +b +a", "required")
        self.check(grammar_of("a b", "either a a"), "b", "b", "-a +a", None)
        self.check(grammar_of("a b", "excludes a a"), "", "b", "+a -a", None)

    def test_starts_at_the_option_itself(self):
        self.check(grammar_of("a b", "needs a b", "needs b a"), "", "a", "+a +b +a", None)
        self.check(grammar_of("a b", "needs a b", "needs b a"), "a", "a", "+a +b +a", "required")
        self.check(grammar_of("a b", "needs a b", "needs b a"), "a", "a", "-a -b -a", None)

    def test_one_literal(self):
        self.check(EXAMPLE, "sign", "sign", "+sign", "required")
        self.check(EXAMPLE, "sign", "key", "+sign", None)
        self.check(EXAMPLE, "", "sign", "+sign", None)
        self.check(EXAMPLE, "", "sign", "-sign", None)
        self.check(EXAMPLE, "sign", "sign", "-sign", None)
        self.check(EXAMPLE, "key", "sign", "+sign", None)

    def test_unsatisfiable_grammar_and_conflict(self):
        self.check(CONTRADICTORY, "", "a", "-a +a", "required")
        self.check(CONTRADICTORY, "a", "a", "+a -a", "impossible")
        self.check(EXAMPLE, "sign raw", "raw", "+sign +key -raw", "impossible")

    def test_errors_in_order(self):
        chain = literals("+x +y")
        for given, name in ((["x"], "y"), ([], "a"), (None, None)):
            check_invalid_grammars(self, judge, given, name, chain)
        for name in NO_NAMES:
            check_error(self, UnknownOption(name), judge, EXAMPLE, ["key", name, "x"], "y", chain)
            check_error(self, UnknownOption(name), judge, EXAMPLE, (name,), "y", None)
            check_error(self, UnknownOption(name), judge, EXAMPLE, ["key", "key"], name, chain)
            check_error(self, UnknownOption(name), judge, EXAMPLE, (), name, [])
        check_error(self, InvalidChain(0), judge, EXAMPLE, ["key"], "key", chain)


class ShowsConflictTest(unittest.TestCase):
    def check(self, grammar, given, chain, expected):
        for names in (given.split(), tuple(given.split()), given.split() * 2):
            self.assertIs(shows_conflict(grammar, names, literals(chain)), expected)

    def test_example(self):
        self.assertIs(shows_conflict(EXAMPLE, ["key", "raw"], [("raw", True), ("key", False)]), True)

    def test_between_two_options(self):
        self.check(EXAMPLE, "raw key", "+key -raw", True)
        self.check(EXAMPLE, "sign raw", "+sign +key -raw", True)
        self.check(EXAMPLE, "sign raw", "+raw -key -sign", True)
        self.check(EXAMPLE, "sign raw key", "+raw -key -sign", True)

    def test_one_option(self):
        self.check(grammar_of("a b", "excludes a a"), "a", "+a -a", True)
        self.check(grammar_of("a b", "needs a b", "excludes b a"), "a", "+a +b -a", True)

    def test_start_is_not_given(self):
        self.check(EXAMPLE, "raw", "+key -raw", False)
        self.check(EXAMPLE, "", "+key -raw", False)
        self.check(EXAMPLE, "sign key", "-key -sign", False)
        self.check(grammar_of("a b", "either a a", "excludes a b"), "a b", "-a +a -b", False)

    def test_end_is_not_given(self):
        self.check(EXAMPLE, "key", "+key -raw", False)
        self.check(EXAMPLE, "sign key", "+sign +key -raw", False)

    def test_end_says_given(self):
        self.check(EXAMPLE, "sign key raw", "+sign +key", False)
        self.check(EXAMPLE, "sign key", "+sign +key", False)

    def test_one_literal(self):
        self.check(EXAMPLE, "key", "+key", False)
        self.check(EXAMPLE, "key", "-key", False)
        self.check(EXAMPLE, "", "-key", False)

    def test_errors_in_order(self):
        chain = literals("+x +y")
        for given in (["x"], ["a"], [], None):
            check_invalid_grammars(self, shows_conflict, given, chain)
        for name in NO_NAMES:
            check_error(self, UnknownOption(name), shows_conflict, EXAMPLE, ["key", name, "x"], chain)
            check_error(self, UnknownOption(name), shows_conflict, EXAMPLE, (name,), None)
        check_error(self, InvalidChain(0), shows_conflict, EXAMPLE, ["key"], chain)


class ShowsImpliedTest(unittest.TestCase):
    def check(self, grammar, clause, chain, expected):
        self.assertIs(shows_implied(grammar, tuple(clause.split()), literals(chain)), expected)

    def test_example(self):
        chain = [("sign", True), ("key", True), ("raw", False)]
        self.assertIs(shows_implied(EXAMPLE, ("excludes", "raw", "sign"), chain), True)

    def test_between_the_two_literals(self):
        self.check(EXAMPLE, "excludes raw sign", "+raw -key -sign", True)
        self.check(EXAMPLE, "excludes sign raw", "+raw -key -sign", True)
        self.check(EXAMPLE, "needs sign key", "+sign +key", True)
        self.check(EXAMPLE, "needs sign key", "-key -sign", True)
        self.check(grammar_of("a b", "either a b"), "either b a", "-a +b", True)
        self.check(grammar_of("a b", "either a b"), "either a b", "-b +a", True)

    def test_from_one_literal_to_its_contrary(self):
        grammar = grammar_of("a b", "excludes a a", "either b b")
        self.check(grammar, "excludes a b", "+a -a", True)
        self.check(grammar, "excludes b a", "+a -a", True)
        self.check(grammar, "needs a b", "+a -a", True)
        self.check(grammar, "needs a b", "-b +b", True)
        self.check(grammar, "either a b", "-b +b", True)
        self.check(grammar, "either a b", "+a -a", False)
        self.check(grammar, "excludes a b", "-b +b", False)
        self.check(grammar, "needs b a", "+a -a", False)
        self.check(grammar, "needs b a", "-b +b", False)

    def test_valid_chains_that_show_something_else(self):
        self.check(EXAMPLE, "needs key sign", "+sign +key", False)
        self.check(EXAMPLE, "needs key sign", "-key -sign", False)
        self.check(EXAMPLE, "either sign key", "+sign +key", False)
        self.check(EXAMPLE, "excludes sign key", "+sign +key", False)
        self.check(EXAMPLE, "excludes sign raw", "+sign +key", False)
        self.check(EXAMPLE, "excludes sign raw", "+key -raw", False)
        self.check(EXAMPLE, "needs sign raw", "+sign +key -raw", False)

    def test_clauses_that_name_one_option_twice(self):
        grammar = grammar_of("a b", "excludes a a", "either b b")
        self.check(grammar, "excludes a a", "+a -a", True)
        self.check(grammar, "either a a", "+a -a", False)
        self.check(grammar, "either b b", "-b +b", True)
        self.check(grammar, "excludes b b", "-b +b", False)
        self.check(grammar, "needs a a", "+a -a", True)
        self.check(grammar, "needs b b", "-b +b", True)
        self.check(grammar, "needs a a", "-b +b", False)

    def test_one_literal(self):
        self.check(EXAMPLE, "needs key key", "+key", True)
        self.check(EXAMPLE, "needs key key", "-key", True)
        self.check(EXAMPLE, "needs key key", "+raw", False)
        self.check(EXAMPLE, "excludes key key", "+key", False)
        self.check(EXAMPLE, "excludes key key", "-key", False)
        self.check(EXAMPLE, "either key key", "+key", False)
        self.check(EXAMPLE, "needs key sign", "+key", False)
        self.check(EXAMPLE, "needs key sign", "-sign", False)

    def test_unsatisfiable_grammar(self):
        self.check(CONTRADICTORY, "either a a", "-a +a", True)
        self.check(CONTRADICTORY, "either a a", "-a +a -a", False)

    def test_errors_in_order(self):
        chain = literals("+x +y")
        for clause in (None, ("needs", "x", "y"), ("needs", "a", "a")):
            check_invalid_grammars(self, shows_implied, clause, chain)
        for clause in NOT_CLAUSES:
            with self.subTest(clause):
                check_error(self, InvalidClause(), shows_implied, EXAMPLE, clause, chain)
                check_error(self, InvalidClause(), shows_implied, EXAMPLE, clause, None)
                check_error(self, InvalidClause(), shows_implied, EXAMPLE, clause, literals("+sign"))
        check_error(self, InvalidChain(0), shows_implied, EXAMPLE, ("needs", "key", "sign"), chain)


class ShowsContradictionTest(unittest.TestCase):
    def check(self, grammar, there, back, expected):
        self.assertIs(shows_contradiction(grammar, (literals(there), literals(back))), expected)

    def test_example(self):
        grammar = ((("a", "", None),), (0, 0), (("either", "a", "a"), ("excludes", "a", "a")))
        chains = ([("a", False), ("a", True)], [("a", True), ("a", False)])
        self.assertIs(shows_contradiction(grammar, chains), True)

    def test_either_order(self):
        self.check(CONTRADICTORY, "-a +a", "+a -a", True)
        self.check(CONTRADICTORY, "+a -a", "-a +a", True)

    def test_several_steps(self):
        grammar = grammar_of("a b", "either a b", "needs a b", "needs b a", "excludes a b")
        self.check(grammar, "-a +b +a", "+a +b -a", True)
        self.check(grammar, "+b +a -b", "-b -a +b", True)
        self.check(grammar, "-b +a +b", "+b -a -b", True)

    def test_two_chains_that_do_not_belong_together(self):
        grammar = grammar_of("a b", "either a a", "excludes a a", "either b b", "excludes b b")
        self.check(grammar, "-a +a", "+a -a", True)
        self.check(grammar, "-a +a", "+b -b", False)
        self.check(grammar, "-a +a", "-a +a", False)
        self.check(grammar, "+b -b", "+b -b", False)
        self.check(grammar, "-b +b", "-a +a", False)

    def test_a_chain_that_does_not_lead_to_the_contrary(self):
        grammar = grammar_of("a b", "either a a", "excludes a a", "needs a b", "needs b a")
        self.check(grammar, "-a +a +b", "+b +a -a", False)
        self.check(grammar, "+a +b", "+b +a", False)
        self.check(grammar, "-a +a", "+a +b", False)
        self.check(grammar, "-a +a +b", "+a -a", False)
        self.check(grammar, "-a +a", "+a -a -b", False)
        self.check(grammar, "-a +a", "+b +a -a", False)
        self.check(grammar, "-b -a +a +b", "+b +a -a -b", True)

    def test_one_literal(self):
        self.check(CONTRADICTORY, "-a", "-a", False)
        self.check(CONTRADICTORY, "-a", "+a", False)
        self.check(CONTRADICTORY, "-a +a", "+a", False)
        self.check(CONTRADICTORY, "+a", "+a -a", False)

    def test_first_chain_comes_first(self):
        good = literals("+sign +key")
        check_error(self, InvalidChain(2), shows_contradiction, EXAMPLE, (literals("+sign +key +raw"), []))
        check_error(self, InvalidChain(0), shows_contradiction, EXAMPLE, (None, literals("+sign -key")))
        check_error(self, InvalidChain(1), shows_contradiction, EXAMPLE, (literals("+sign +x"), None))
        check_error(self, InvalidChain(1), shows_contradiction, EXAMPLE, (good, literals("+sign +sign")))

    def test_second_chain_is_checked_although_the_first_one_leads_elsewhere(self):
        check_error(self, InvalidChain(1), shows_contradiction, EXAMPLE, (literals("-raw"), literals("+sign -sign")))

    def test_not_a_tuple_of_two(self):
        chain = literals("-a +a")
        for chains in (None, 0, True, "", "ab", (), [], (chain,), (chain, chain, chain), [chain, literals("+a -a")],
                       chain):
            with self.subTest(chains):
                check_error(self, InvalidChain(0), shows_contradiction, CONTRADICTORY, chains)

    def test_invalid_grammar_comes_first(self):
        for chains in (([("a", True)], [("a", True)]), ([], []), (None, None), None, ()):
            check_invalid_grammars(self, shows_contradiction, chains)


class SearchTest(unittest.TestCase):
    def chains_of(self, source, grammar):
        """Return some chains, valid ones and others."""
        items = all_literals(grammar)
        for _ in range(25):
            chain = [source.choice(items)]
            for _ in range(source.randint(0, 4)):
                following = [item for item in items if is_step(grammar, chain[-1], item)]
                chain.append(source.choice(following if following and source.random() < 0.9 else items))
            yield chain

    def test_chains(self):
        source = random.Random(43)
        counts = {True: 0, False: 0}
        for grammar in grammars_for_search(47, 100):
            for chain in self.chains_of(source, grammar):
                steps = list(itertools.pairwise(chain))
                wrong = [at for at, (one, two) in enumerate(steps, 1) if not is_step(grammar, one, two)]
                counts[bool(wrong)] += 1
                if wrong:
                    check_error(self, InvalidChain(wrong[0]), check_chain, grammar, chain)
                else:
                    self.check_valid(grammar, chain, steps)
                    self.check_shown(source, grammar, chain)
        self.assertGreater(min(counts.values()), 300, counts)

    def check_valid(self, grammar, chain, steps):
        options, positionals, clauses = grammar
        expected = []
        for one, two in steps:
            found = [clause for clause in clauses if is_step((options, positionals, (clause,)), one, two)]
            expected.append(found[0])
        self.assertEqual(check_chain(grammar, chain), expected)

    def check_shown(self, source, grammar, chain):
        (start, start_truth), (end, end_truth) = chain[0], chain[-1]
        names = [option[0] for option in grammar[0]]
        given = [source.choice(names) for _ in range(source.randint(0, 2))]
        starts = [(one, True) for one in given]
        for name in names:
            expected = None
            if end == name and (chain[0] in starts or chain[0] == opposite(chain[-1])):
                expected = "required" if end_truth else "impossible"
            self.assertEqual(judge(grammar, given, name, chain), expected)
        expected = chain[0] in starts and opposite(chain[-1]) in starts
        self.assertIs(shows_conflict(grammar, given, chain), expected)
        for one, two in itertools.product(names, names):
            for word, first_truth, second_truth in (
                ("needs", False, True), ("excludes", False, False), ("either", True, True),
            ):
                ends = [(one, first_truth), (two, second_truth)]
                expected = (start, not start_truth) in ends and (end, end_truth) in ends
                self.assertIs(shows_implied(grammar, (word, one, two), chain), expected)


class ArgumentsAndValuesTest(unittest.TestCase):
    def test_arguments_are_not_changed(self):
        given, chain, before = ["sign", "sign"], literals("+sign +key"), copy.deepcopy(EXAMPLE)
        check_chain(EXAMPLE, chain)
        describe(EXAMPLE, chain)
        judge(EXAMPLE, given, "key", chain)
        shows_conflict(EXAMPLE, given, chain)
        shows_implied(EXAMPLE, ("needs", "sign", "key"), chain)
        shows_contradiction(EXAMPLE, (chain, chain))
        self.assertEqual((given, chain, EXAMPLE), (["sign", "sign"], literals("+sign +key"), before))

    def test_returned_values_may_be_changed(self):
        chain = literals("+sign +key")
        for _ in range(2):
            for function, value in ((check_chain, [("needs", "sign", "key")]), (describe, ["sign needs key: --key"])):
                found = function(EXAMPLE, chain)
                self.assertEqual(found, value)
                found.append("more")
        self.assertEqual(EXAMPLE[2], (("needs", "sign", "key"), ("excludes", "key", "raw")))

    def test_an_error_changes_no_later_call(self):
        for _ in range(2):
            check_error(self, InvalidChain(1), check_chain, EXAMPLE, literals("+sign -key"))
            self.assertEqual(check_chain(EXAMPLE, literals("+sign +key")), [("needs", "sign", "key")])

    def test_values_of_options_do_not_matter(self):
        options = (("a", "x", ("int", 0, 0)), ("b", "", ("choice", ("c",))))
        grammar = (options, (3, 9), (("needs", "a", "b"),))
        self.assertEqual(describe(grammar, literals("+a +b")), describe((flags("a", "b"), (0, 0), grammar[2]),
                                                                        literals("+a +b")))


if __name__ == "__main__":
    unittest.main()
