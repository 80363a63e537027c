"""flagclause/grammar.py: points 1 to 4."""

import copy
import unittest

from flagclause import grammar as grammar_file
from flagclause.errors import InvalidGrammar
from flagclause.grammar import option_names
from tests.helper import EXAMPLE, ODD_VALUES, error_of, flags, grammar_of

A_TO_M = "abcdefghijklm"


def with_kind(kind):
    return ((("a", "", kind),), (0, 0), ())


class GrammarTest(unittest.TestCase):
    def valid(self, grammar):
        before = copy.deepcopy(grammar)
        self.assertEqual(option_names(grammar), [option[0] for option in grammar[0]])
        self.assertEqual(grammar, before)

    def invalid(self, grammar, part, index):
        before = copy.deepcopy(grammar)
        error = error_of(option_names, grammar)
        self.assertIs(type(error), InvalidGrammar, error)
        self.assertEqual((error.part, error.index), (part, index))
        self.assertEqual(grammar, before)


class ExamplesTest(GrammarTest):
    def test_defined_here(self):
        self.assertEqual(option_names.__module__, "flagclause.grammar")
        self.assertIs(grammar_file.option_names, option_names)

    def test_names(self):
        self.assertEqual(option_names(EXAMPLE), ["sign", "key", "raw"])

    def test_repeated_name(self):
        self.invalid(((("a", "", None), ("a", "", None)), (0, 0), ()), "options", 1)

    def test_order_is_that_of_the_grammar(self):
        self.assertEqual(option_names(grammar_of("c a d b")), ["c", "a", "d", "b"])

    def test_every_kind_at_once(self):
        kinds = (None, ("int", -5, 5), ("choice", ("on", "off")), ("word",))
        options = tuple((name, name, kind) for name, kind in zip("dbca", kinds))
        self.valid((options, (1, 3), (("either", "d", "a"), ("needs", "b", "b"))))


class ReturnedValueTest(GrammarTest):
    def test_callers_may_change_it(self):
        names = option_names(EXAMPLE)
        self.assertIs(type(names), list)
        names.append("more")
        names[0] = "less"
        self.assertEqual(option_names(EXAMPLE), ["sign", "key", "raw"])

    def test_an_error_changes_no_later_call(self):
        self.invalid(grammar_of("a a"), "options", 1)
        self.assertEqual(option_names(EXAMPLE), ["sign", "key", "raw"])
        self.invalid(grammar_of("a a"), "options", 1)


class WholeTest(GrammarTest):
    def test_not_a_tuple_of_three(self):
        options, positionals, clauses = EXAMPLE
        for grammar in (list(EXAMPLE), (), (options,), EXAMPLE[:2], EXAMPLE + ((),), [], [options], {}):
            with self.subTest(grammar):
                self.invalid(grammar, "grammar", 0)

    def test_odd_values(self):
        for place, value in enumerate(ODD_VALUES):
            if not (isinstance(value, tuple) and len(value) == 3):
                with self.subTest(place):
                    self.invalid(value, "grammar", 0)

    def test_tuples_of_three(self):
        self.invalid((None, None, None), "options", 0)
        self.invalid(((), (), ()), "options", 0)
        self.invalid(("needs", "sign", "key"), "options", 0)


class OptionsTest(GrammarTest):
    def test_not_a_tuple_or_empty(self):
        for options in ((), [], [("a", "", None)], "a", "", None, 0, 1, True, False, {}):
            with self.subTest(options):
                self.invalid((options, (0, 0), ()), "options", 0)

    def test_number_of_options(self):
        self.valid((flags("a"), (0, 0), ()))
        self.valid((flags(*A_TO_M[:12]), (0, 0), ()))
        self.invalid((flags(*A_TO_M), (0, 0), ()), "options", 12)
        self.invalid((flags(*A_TO_M, "n", "a"), (0, 0), ()), "options", 12)

    def test_an_earlier_option_counts_before_the_thirteenth(self):
        self.invalid((flags(*A_TO_M[:11], "a", "m"), (0, 0), ()), "options", 11)
        self.invalid((flags(*A_TO_M[:12], "A"), (0, 0), ()), "options", 12)

    def test_not_a_tuple_of_three(self):
        for option in (["a", "", None], (), ("a",), ("a", ""), ("a", "", None, None), "abc", None, 3, True):
            with self.subTest(option):
                self.invalid(((option,), (0, 0), ()), "options", 0)
                self.invalid((flags("x", "y") + (option,), (0, 0), ()), "options", 2)

    def test_first_of_several(self):
        self.invalid((flags("a", "B", "a", "C"), (0, 0), ()), "options", 1)
        self.invalid((flags("a", "b", "a", "C"), (0, 0), ()), "options", 2)
        self.invalid((flags("a", "b", "b", "a"), (0, 0), ()), "options", 2)

    def test_valid_names(self):
        for name in ("a", "z", "a-b", "a--b", "a-b-c", "abcdefghijkl", "mnopqrstuvwx", "yz", "a----------z"):
            with self.subTest(name):
                self.valid((flags(name), (0, 0), ()))

    def test_invalid_names(self):
        names = (
            "", "abcdefghijklm", "a-----------z", "-", "--", "-a", "a-", "-a-", "A", "aB", "Ab", "a1", "1", "a_b",
            "a b", " a", "a ", "a\n", "\na", "a.b", "a=", "`", "{", "\u00e9", "\u00df", "a\u2010b", "\u0430",
            None, 0, 1, True, False, (), ("a",), [], ["a"], ("a", "b"),
        )
        for name in names:
            with self.subTest(name):
                self.invalid(((("ok", "", None), (name, "", None)), (0, 0), ()), "options", 1)

    def test_names_may_begin_like_others(self):
        self.valid((flags("a", "ab", "abc", "a-b", "b"), (0, 0), ()))

    def test_valid_short_names(self):
        self.valid((tuple((name, name, None) for name in A_TO_M[:12]), (0, 0), ()))
        self.valid((tuple((name, "", None) for name in A_TO_M[:12]), (0, 0), ()))
        self.valid(((("a", "z", None), ("b", "", None), ("c", "a", None), ("d", "", None)), (0, 0), ()))

    def test_invalid_short_names(self):
        shorts = (
            "A", "Z", "ab", "abc", "aa", "1", "-", " ", "\n", "a\n", "`", "{", "\u00e9", None, 0, 1, True, False,
            (), ("a",), [], ["a"],
        )
        for short_name in shorts:
            with self.subTest(short_name):
                self.invalid(((("a", "", None), ("b", short_name, None)), (0, 0), ()), "options", 1)

    def test_repeated_short_names(self):
        self.invalid(((("a", "s", None), ("b", "s", None)), (0, 0), ()), "options", 1)
        self.invalid(((("a", "s", None), ("b", "", None), ("c", "t", None), ("d", "s", None)), (0, 0), ()), "options", 3)

    def test_short_name_may_be_the_name_of_another_option(self):
        self.valid(((("a", "b", None), ("b", "a", None)), (0, 0), ()))


class KindsTest(GrammarTest):
    def test_valid_bounds(self):
        for low, high in ((0, 9), (-9999, 9999), (-9999, -9999), (9999, 9999), (0, 0), (-5, -4), (-1, 1)):
            with self.subTest((low, high)):
                self.valid(with_kind(("int", low, high)))

    def test_invalid_bounds(self):
        bounds = (
            (-10000, 9999), (-9999, 10000), (-10000, -10000), (10000, 10000), (1, 0), (9999, -9999), (-4, -5),
            (False, 9), (0, True), (True, True), (False, False), (True, 5), ("0", 9), (0, "9"), (None, 9),
            (0, None), ((0,), 9), (0, (9,)), ([0], 9), (0, [9]), (10 ** 5000, 10 ** 5001), (0, 10 ** 5000),
            (-(10 ** 5000), 0),
        )
        for low, high in bounds:
            with self.subTest():
                self.invalid(with_kind(("int", low, high)), "options", 0)

    def test_valid_choices(self):
        for words in (("a",), ("fast", "full", "slow"), tuple("abcdefgh"), ("abcdefghijkl",), ("a", "aa", "aaa")):
            with self.subTest(words):
                self.valid(with_kind(("choice", words)))

    def test_invalid_choices(self):
        choices = (
            (), tuple("abcdefghi"), ("a", "a"), ("a", "b", "a"), ("",), ("a", ""), ("abcdefghijklm",),
            ("a", "abcdefghijklm"), ("A",), ("a", "bC"), ("a-b",), ("-",), ("a1",), ("a b",), ("a\n",), ("\u00e9",),
            ["a", "b"], [], "ab", "a", None, 1, True, ("a", None), ("a", 1), ("a", True), ("a", ("b",)),
            ("a", ["b"]), (["a"], ["a"]), (("a",), ("a",)), (1, 1),
        )
        for words in choices:
            with self.subTest(words):
                self.invalid(with_kind(("choice", words)), "options", 0)

    def test_none_and_word(self):
        self.valid(with_kind(None))
        self.valid(with_kind(("word",)))

    def test_other_kinds(self):
        kinds = (
            (), "", "word", "int", "choice", "flag", 0, 1, True, False, [], ["word"], ["int", 0, 9],
            ["choice", ("a",)], ("flag",), ("none",), (None,), ("Word",), ("word", None), ("word", "a"), ("word", 0, 9),
            ("int",), ("int", 0), ("int", 0, 9, 9), ("Int", 0, 9), (int, 0, 9), ("choice",), ("choice", "a"),
            ("choice", ("a",), ("b",)), ("choice", "a", "b"), ("int", ("a",)), ("choice", 0, 9), (["word"],),
            (("word",),), (None, 0, 9), (["int"], 0, 9), (None, ("a",)), (1,), (True,),
        )
        for kind in kinds:
            with self.subTest(kind):
                self.invalid(with_kind(kind), "options", 0)

    def test_kind_of_a_later_option(self):
        options = (("a", "", ("int", 0, 9)), ("b", "", ("choice", ("x",))), ("c", "", ("int", 9, 0)))
        self.invalid((options, (0, 0), ()), "options", 2)


class PositionalsTest(GrammarTest):
    def test_valid(self):
        for positionals in ((0, 0), (0, 9), (9, 9), (0, 2), (3, 4), (1, 1)):
            with self.subTest(positionals):
                self.valid((flags("a"), positionals, ()))

    def test_not_a_tuple_of_two(self):
        for positionals in ([0, 2], (), (0,), (0, 1, 2), "01", "", None, 0, 2, True, [], ((0, 2),)):
            with self.subTest(positionals):
                self.invalid((flags("a"), positionals, ()), "positionals", 0)

    def test_minimum(self):
        for minimum in (-1, 10, 11, 10 ** 5000, True, False, None, "0", "", (), (0,), [], [0]):
            with self.subTest():
                self.invalid((flags("a"), (minimum, 9), ()), "positionals", 0)
                self.invalid((flags("a"), (minimum, None), ()), "positionals", 0)

    def test_maximum(self):
        for maximum in (-1, 10, 11, 10 ** 5000, True, False, None, "9", "", (), (9,), [], [9]):
            with self.subTest():
                self.invalid((flags("a"), (0, maximum), ()), "positionals", 1)

    def test_minimum_above_maximum(self):
        for positionals in ((1, 0), (9, 8), (9, 0), (5, 4)):
            with self.subTest(positionals):
                self.invalid((flags("a"), positionals, ()), "positionals", 1)
        self.invalid((flags("a"), (10, 9), ()), "positionals", 0)
        self.invalid((flags("a"), (10, 10), ()), "positionals", 0)
        self.invalid((flags("a"), (1, True), ()), "positionals", 1)


class ClausesTest(GrammarTest):
    def test_not_a_tuple(self):
        clauses = ([], [("needs", "a", "b")], None, "", "needs", 0, True, False)
        for value in clauses:
            with self.subTest(value):
                self.invalid((flags("a", "b"), (0, 0), value), "clauses", 0)

    def test_number_of_clauses(self):
        clause = ("needs", "a", "b")
        for count in (0, 1, 59, 60):
            with self.subTest(count):
                self.valid((flags("a", "b"), (0, 0), (clause,) * count))
        self.invalid((flags("a", "b"), (0, 0), (clause,) * 61), "clauses", 60)
        self.invalid((flags("a", "b"), (0, 0), (clause,) * 100), "clauses", 60)

    def test_an_earlier_clause_counts_before_the_sixty_first(self):
        clauses = (("needs", "a", "b"),) * 59 + (("needs", "a", "c"),) * 2
        self.invalid((flags("a", "b"), (0, 0), clauses), "clauses", 59)

    def test_words(self):
        for word in ("needs", "excludes", "either"):
            for first, second in (("a", "b"), ("b", "a"), ("a", "a"), ("b", "b")):
                with self.subTest((word, first, second)):
                    self.valid((flags("a", "b"), (0, 0), ((word, first, second),)))

    def test_not_a_clause(self):
        clauses = (
            ("need", "a", "b"), ("", "a", "b"), ("Needs", "a", "b"), ("a", "needs", "b"), ("either ", "a", "b"),
            ("e", "a", "b"), (None, "a", "b"), (0, "a", "b"), (True, "a", "b"), (["needs"], "a", "b"),
            (("needs",), "a", "b"), ("needs", "a", "c"), ("needs", "c", "a"), ("needs", "", "a"), ("needs", "a", ""),
            ("needs", "A", "b"), ("needs", None, "a"), ("needs", "a", None), ("needs", 0, "a"), ("needs", "a", 0),
            ("needs", True, "a"), ("needs", "a", False), ("needs", ["a"], "b"), ("needs", "a", ["b"]),
            ("needs", ("a",), "b"), ("needs", "a", ("b",)), (), ("needs",), ("needs", "a"), ("a", "b"),
            ("needs", "a", "b", "a"), ["needs", "a", "b"], [], "nab", "needs", "", None, 0, 3, True, False,
        )
        for clause in clauses:
            with self.subTest(clause):
                self.invalid((flags("a", "b"), (0, 0), (clause,)), "clauses", 0)
                self.invalid((flags("a", "b"), (0, 0), (("either", "a", "b"), clause, None)), "clauses", 1)

    def test_short_names_are_no_names(self):
        self.invalid(((("aa", "a", None), ("bb", "b", None)), (0, 0), (("needs", "a", "b"),)), "clauses", 0)

    def test_beginning_of_a_name_is_no_name(self):
        self.invalid((flags("sign", "key"), (0, 0), (("needs", "sig", "key"),)), "clauses", 0)


class OrderTest(GrammarTest):
    def test_first_part_counts(self):
        options, positionals, clauses = EXAMPLE
        self.invalid((options[:1] + (None,), None, None), "options", 1)
        self.invalid(((), (1, 0), clauses), "options", 0)
        self.invalid((options, (1, 0), None), "positionals", 1)
        self.invalid((options, None, (None,)), "positionals", 0)
        self.invalid((options, positionals, clauses + (None,)), "clauses", 2)
        self.invalid((options[:2], positionals, clauses), "clauses", 1)
        self.invalid((None, None, None, None), "grammar", 0)

    def test_odd_values_at_each_place(self):
        options, positionals, clauses = EXAMPLE
        for place, value in enumerate(ODD_VALUES):
            with self.subTest(place):
                self.odd_option(value, options[1], options)
                self.odd_positionals(value, options, clauses)
                self.odd_clause(value, clauses[1], clauses)
                if value != ():
                    self.invalid((options, positionals, value), "clauses", 0)

    def odd_positionals(self, value, options, clauses):
        self.invalid((options, value, clauses), "positionals", 0)
        if isinstance(value, bool) or value not in range(10):
            self.invalid((options, (value, 9), clauses), "positionals", 0)
            self.invalid((options, (0, value), clauses), "positionals", 1)

    def odd_option(self, value, option, options):
        name, short_name, kind = option
        _, positionals, _ = EXAMPLE
        for place in range(2):
            changed = tuple(value if at == place else item for at, item in enumerate(option))
            if not isinstance(value, str):
                self.invalid(((options[0], changed), positionals, ()), "options", 1)
        if value is not None:
            self.invalid(((options[0], (name, short_name, value)), positionals, ()), "options", 1)
        if value != ("a", "", None):
            self.invalid(((options[0], value), positionals, ()), "options", 1)

    def odd_clause(self, value, clause, clauses):
        options, positionals, _ = EXAMPLE
        for place in range(3):
            changed = tuple(value if at == place else item for at, item in enumerate(clause))
            if value != ("needs" if place == 0 else "sign"):
                self.invalid((options, positionals, (clauses[0], changed)), "clauses", 1)
        if value != ("needs", "sign", "key"):
            self.invalid((options, positionals, (clauses[0], value)), "clauses", 1)


if __name__ == "__main__":
    unittest.main()
