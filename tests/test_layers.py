"""flagclause/layers.py: points 1 and 19."""

import copy
import random
import unittest

from flagclause import layers
from flagclause.errors import InvalidLayer, Unsatisfiable
from flagclause.layers import resolve
from tests.helper import (
    LINE_EXAMPLE, NO_TOKENS, accepted_by_search, best_chain, check_defined_in, check_error, check_invalid_grammars,
    grammar_of, grammars_for_search, literals, names_in,
)

UNSATISFIABLE = (LINE_EXAMPLE[0], (0, 0), (("either", "sign", "sign"), ("excludes", "sign", "sign")))

# What is no layer of LINE_EXAMPLE.
NO_LAYERS = (
    None, True, 0, "", "sign", (), (("sign", True),), {}, {"sign": True},
    [None], [0], ["sign"], [[]], [["sign", True]], [()], [("sign",)], [("sign", True, 0)], [("sign", True), None],
    [("x", True)], [("", True)], [("s", True)], [("SIGN", True)], [(None, True)], [(True, True)], [(["sign"], True)],
    [(("sign",), True)], [("level", 5), ("x", 5)],
    [("sign", True), ("sign", True)], [("level", 5), ("mode", "fast"), ("level", 6)], [("level", 5), ("level", 5)],
    [("level", 10)], [("level", -1)], [("level", "5")], [("level", True)], [("level", False)], [("level", None)],
    [("mode", "fa")], [("mode", "")], [("mode", True)], [("mode", 0)], [("mode", ["fast"])],
    [("key", True)], [("key", None)], [("key", 5)], [("key", "%")], [("key", "a" * 201)],
    [("sign", False)], [("sign", 1)], [("sign", "")], [("sign", None)], [("sign", "True")], [("sign", [True])],
    [("sign", True), ("level", 5), ("mode", "x")],
)


def items(text):
    """Return a layer of options without values."""
    return [(name, True) for name in text.split()]


class FileTest(unittest.TestCase):
    def test_defined_here(self):
        check_defined_in(self, layers, resolve)


class ResolveTest(unittest.TestCase):
    def check(self, grammar, texts, kept, dropped):
        """Check layers of options without values; each part is "name 0", "0 name" or "0 name +a -b"."""
        with self.subTest(texts):
            expected = (
                [(part.split()[0], True, int(part.split()[1])) for part in kept],
                [(int(part.split()[0]), part.split()[1], tuple(literals(" ".join(part.split()[2:]))) or None)
                 for part in dropped],
            )
            found = resolve(grammar, [items(text) for text in texts])
            self.assertEqual(found, expected)
            self.assertEqual([type(found), type(found[0]), type(found[1])], [tuple, list, list])

    def test_example(self):
        found = resolve(LINE_EXAMPLE, [[("level", 3)], [("level", 5), ("mode", "fast")]])
        self.assertEqual(found, ([('level', 3, 0), ('mode', 'fast', 1)], [(1, 'level', None)]))

    def test_no_layers(self):
        self.assertEqual(resolve(LINE_EXAMPLE, []), ([], []))
        self.assertEqual(resolve(LINE_EXAMPLE, [[], [], []]), ([], []))

    def test_every_kind_of_value(self):
        found = resolve(LINE_EXAMPLE, [[], [("mode", "slow"), ("sign", True)], [], [("level", 0), ("key", "")]])
        self.assertEqual(repr(found), repr(([("mode", "slow", 1), ("sign", True, 1), ("level", 0, 3), ("key", "", 3)], [])))

    def test_kept_by_a_higher_layer(self):
        self.check(grammar_of("a b c"), ["a b", "b c", "c a b"], ["a 0", "b 0", "c 1"],
                   ["1 b", "2 c", "2 a", "2 b"])
        found = resolve(LINE_EXAMPLE, [[("level", 1)], [("level", 1)], [], [("level", 2)]])
        self.assertEqual(found, ([("level", 1, 0)], [(1, "level", None), (3, "level", None)]))

    def test_conflict_with_one_kept_item(self):
        grammar = grammar_of("a b c", "excludes a b", "needs c b")
        self.check(grammar, ["a", "b c"], ["a 0"], ["1 b +a -b", "1 c +a -b -c"])
        self.check(grammar, ["b", "a", "c"], ["b 0", "c 2"], ["1 a +a -b"])
        self.check(grammar, ["a b c"], ["a 0"], ["0 b +a -b", "0 c +a -b -c"])
        self.check(grammar, ["c a b"], ["c 0", "b 0"], ["0 a +a -b -c"])

    def test_conflict_with_several_kept_items(self):
        grammar = grammar_of("d c b a", "excludes c d", "excludes a d", "excludes d b")
        self.check(grammar, ["c b", "a", "d"], ["c 0", "b 0", "a 1"], ["2 d +a -d"])
        grammar = grammar_of("a b c x", "needs x b", "excludes b a", "excludes x c")
        self.check(grammar, ["a c", "x"], ["a 0", "c 0"], ["1 x +c -x"])

    def test_conflict_with_itself(self):
        grammar = grammar_of("a b c", "excludes a a", "needs b a")
        self.check(grammar, ["b a", "c a"], ["c 1"], ["0 b +b +a -a -b", "0 a +a -a", "1 a +a -a"])

    def test_chains_with_ties(self):
        clauses = ("needs a y", "excludes y b", "needs a x", "excludes x b")
        self.check(grammar_of("a b x y", *clauses), ["b", "a"], ["b 0"], ["1 a +a +x -b"])
        self.check(grammar_of("a b x y", *clauses), ["a", "b"], ["a 0"], ["1 b +a +x -b"])
        self.check(grammar_of("b c a", "excludes b a", "excludes c a"), ["c b", "a"], ["c 0", "b 0"], ["1 a +a -b"])

    def test_item_that_is_dropped_does_not_count(self):
        grammar = grammar_of("a b c", "excludes a b", "excludes b c")
        self.check(grammar, ["a", "b", "c"], ["a 0", "c 2"], ["1 b +a -b"])
        self.check(grammar, ["a", "b", "b", "c b"], ["a 0", "c 3"], ["1 b +a -b", "2 b +a -b", "3 b +a -b"])

    def test_item_that_is_dropped_may_be_kept_by_no_lower_layer(self):
        found = resolve(
            ((("a", "", ("int", 0, 9)), ("b", "", None)), (0, 0), (("excludes", "a", "b"),)),
            [[("b", True), ("a", 1)], [("a", 2)]],
        )
        chain = (("a", True), ("b", False))
        self.assertEqual(found, ([("b", True, 0)], [(0, "a", chain), (1, "a", chain)]))

    def test_unmet_clauses_do_not_count(self):
        self.check(grammar_of("a b c", "needs a b", "either c c"), ["a"], ["a 0"], [])

    def test_against_a_search(self):
        source = random.Random(19)
        for grammar in grammars_for_search(seed=19):
            names = names_in(grammar)
            if not accepted_by_search(grammar):
                continue
            texts = [source.sample(names, source.randint(0, len(names))) for _ in range(source.randint(0, 4))]
            kept, dropped = [], []
            for number, text in enumerate(texts):
                for name in text:
                    given = [item[0] for item in kept]
                    pairs = [((one, True), (other, False)) for one in [*given, name] for other in [*given, name]]
                    if name in given:
                        dropped.append((number, name, None))
                    elif accepted_by_search(grammar, [*given, name]):
                        kept.append((name, True, number))
                    else:
                        dropped.append((number, name, tuple(best_chain(grammar, pairs))))
            self.assertEqual(resolve(grammar, [[(name, True) for name in text] for text in texts]), (kept, dropped))

    def test_arguments_and_results_are_apart(self):
        given = [[("level", 3)], [("level", 5), ("mode", "fast")]]
        before = copy.deepcopy(given)
        for _ in range(2):
            kept, dropped = resolve(LINE_EXAMPLE, given)
            self.assertEqual((kept, dropped), ([("level", 3, 0), ("mode", "fast", 1)], [(1, "level", None)]))
            self.assertEqual(given, before)
            kept.clear()
            dropped.append(None)


class ErrorsTest(unittest.TestCase):
    def check(self, expected, argument, grammar=LINE_EXAMPLE):
        with self.subTest(argument):
            check_error(self, expected, resolve, grammar, argument)

    def test_not_a_list(self):
        for argument in (None, True, 0, 5, "", "sign", (), ([],), ([("sign", True)],), {}):
            self.check(InvalidLayer(0), argument)

    def test_invalid_layers(self):
        for layer in NO_LAYERS:
            self.check(InvalidLayer(0), [layer])
            self.check(InvalidLayer(0), [layer, None, [("sign", True)]])
            self.check(InvalidLayer(2), [[], [("sign", True), ("key", "x"), ("level", 9), ("mode", "full")], layer])
            self.check(InvalidLayer(1), [[("sign", True)], layer, layer])

    def test_words_that_are_no_tokens(self):
        for token in NO_TOKENS:
            self.check(InvalidLayer(1), [[("key", "a")], [("key", token)]])

    def test_one_option_in_several_layers(self):
        self.assertEqual(len(resolve(LINE_EXAMPLE, [[("sign", True)], [("sign", True)]])[1]), 1)

    def test_unsatisfiable_comes_last(self):
        self.check(Unsatisfiable(), [], UNSATISFIABLE)
        self.check(Unsatisfiable(), [[], [("sign", True)]], UNSATISFIABLE)
        self.check(InvalidLayer(1), [[], [("sign", 1)]], UNSATISFIABLE)
        self.check(InvalidLayer(0), None, UNSATISFIABLE)

    def test_invalid_grammar_comes_first(self):
        for argument in ([], [[]], [[("a", True)]], [None], None):
            check_invalid_grammars(self, resolve, argument)


if __name__ == "__main__":
    unittest.main()
