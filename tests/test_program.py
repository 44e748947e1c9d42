"""What the document promises over all six calls together."""

import ast
import importlib.util
import inspect
import random
import sys
import unittest

from lettercounts import grammar
from tests import cases
from tests.oracle import random_cases, random_steps

PARAMETERS = {
    "lc_has": ["v", "l", "r", "rules", "counts"],
    "lc_trees": ["v", "l", "r", "p", "rules", "counts"],
    "lc_first": ["v", "l", "r", "rules", "counts"],
    "lc_index": ["v", "l", "r", "rules", "counts"],
    "lc_pump": ["v", "l", "r", "a", "rules", "counts"],
    "lc_steps": ["l", "c", "base", "steps", "counts"],
}

OF_GRAMMARS = [name for name in PARAMETERS if name != "lc_steps"]

# What lc_trees and lc_pump are asked for besides, where it is not that which is tested.
BESIDES = {"lc_trees": [cases.MOST], "lc_pump": [0]}


def call(name, *arguments):
    return getattr(grammar, name)(*arguments)


def ask(name, v, l, rules, counts):
    """The answer of one of the calls of grammars."""
    return call(name, v, l, len(rules) // 3, *BESIDES.get(name, []), rules, counts)


def fresh_call(name, *arguments):
    """The answer of a program that has never been asked before."""
    spec = importlib.util.spec_from_file_location("fresh_grammar", grammar.__file__)
    module = importlib.util.module_from_spec(spec)
    spec.loader.exec_module(module)
    return getattr(module, name)(*arguments)


def mixed_calls(seed, number):
    """Calls of all six, one behind another in an order that is the same for the same seed; also wrong ones."""
    source = random.Random(seed)
    asked = []
    for v, l, r, rules, counts in random_cases(seed, number):
        for name in OF_GRAMMARS:
            besides = {"lc_trees": [source.choice([2, 7, cases.MOST, 1])], "lc_pump": [source.randrange(-1, v + 1)]}
            asked.append((name, v, l, r, *besides.get(name, []), rules, counts))
    for arguments in random_steps(seed, number):
        asked.append(("lc_steps",) + arguments)
    for v, l, rules, counts in cases.WRONG_GIVEN:
        name = source.choice(OF_GRAMMARS)
        asked.append((name, v, l, len(rules) // 3, *BESIDES.get(name, []), rules, counts))
    for v, l, r in cases.WRONG_SIZES:
        name = source.choice(OF_GRAMMARS)
        asked.append((name, v, l, r, *BESIDES.get(name, []), [], []))
    asked.append(("lc_steps", 0, 0, [], [], []))
    asked.append(("lc_steps", 1, 1, [0], [0], [0]))
    source.shuffle(asked)
    return asked


class Interface(unittest.TestCase):
    def test_the_six_calls_and_their_parameters(self):
        for name, parameters in PARAMETERS.items():
            self.assertEqual(list(inspect.signature(getattr(grammar, name)).parameters), parameters, name)
        self.assertEqual(sorted(name for name in vars(grammar) if name.startswith("lc_")), sorted(PARAMETERS))

    def test_nothing_is_imported(self):
        tree = ast.parse(inspect.getsource(grammar))
        self.assertEqual([node for node in ast.walk(tree) if isinstance(node, (ast.Import, ast.ImportFrom))], [])

    def test_every_answer_is_a_list_of_whole_numbers(self):
        for name, *arguments in mixed_calls(21, 60):
            self.assertTrue(cases.is_list_of_numbers(call(name, *arguments)), (name, arguments))

    def test_how_many_numbers_are_answered(self):
        for name, *arguments in mixed_calls(22, 100):
            answer = call(name, *arguments)
            if answer[0] < 0:
                self.assertIn(answer, ([-2], [-3], [-5]))
                self.assertFalse(answer == [-5] and name in ("lc_has", "lc_trees", "lc_pump"), (name, arguments))
            elif name in ("lc_has", "lc_pump"):
                self.assertIn(answer, ([0], [1]))
            elif name == "lc_trees":
                self.assertEqual((len(answer), answer[0]), (2, 0))
                self.assertLess(answer[1], arguments[3])
            elif name == "lc_first":
                self.assertEqual(answer[0], len(answer) - 1)
                self.assertEqual([answer[1:].count(x) for x in range(arguments[1])], arguments[-1])
            elif name == "lc_index":
                self.assertEqual(len(answer), 1)
                self.assertIn(answer[0], range(1, 6))
            else:
                self.assertEqual((len(answer), answer[0]), (1 + arguments[1], 0))

    def test_not_deep(self):
        rules = cases.even_grammar()
        limit = sys.getrecursionlimit()
        sys.setrecursionlimit(len(inspect.stack(0)) + 40)
        try:
            for name in OF_GRAMMARS:
                ask(name, 8, 4, rules, [3, 3, 3, 3])
                ask(name, 1, 1, cases.ALL_OF_ONE_LETTER, [24])
            grammar.lc_steps(1, 8, [0], [1] * 8, [24])
        finally:
            sys.setrecursionlimit(limit)


class Edges(unittest.TestCase):
    def test_least_sizes(self):
        for name, expected in (("lc_has", [1]), ("lc_trees", [0, 1]), ("lc_first", [1, 0]), ("lc_index", [1]),
                               ("lc_pump", [0])):
            self.assertEqual(ask(name, 1, 1, [0, 0, 255], [1]), expected, name)
        self.assertEqual(grammar.lc_steps(1, 0, [0], [], [0]), [0])

    def test_greatest_sizes(self):
        # 7 comes to 7 7 by 63 rules in all, and to letter 3; 0 comes to 7 7 by one rule.
        rules = [0, 7, 7] + [7, 7, 7] * 62 + [7, 3, 255]
        counts = [0, 0, 0, 24]
        self.assertEqual(len(rules), 192)
        self.assertEqual(ask("lc_has", 8, 4, rules, counts), [1])
        self.assertEqual(ask("lc_trees", 8, 4, rules, counts), [0, 343059613650 * 62 ** 22 % cases.MOST])
        self.assertEqual(ask("lc_first", 8, 4, rules, counts), [24] + [3] * 24)
        self.assertEqual(ask("lc_index", 8, 4, rules, counts), [2])
        self.assertEqual(ask("lc_pump", 8, 4, rules, counts), [0])
        self.assertEqual(grammar.lc_pump(8, 4, 64, 7, rules, counts), [1])
        self.assertEqual(grammar.lc_steps(4, 8, counts, [0, 0, 0, 24] * 8, counts), [0] * 9)

    def test_counts_that_are_all_0(self):
        for name, expected in (("lc_has", [0]), ("lc_trees", [0, 0]), ("lc_first", [-5]), ("lc_index", [-5]),
                               ("lc_pump", [0])):
            self.assertEqual(ask(name, 1, 1, cases.ALL_OF_ONE_LETTER, [0]), expected, name)
        self.assertEqual(grammar.lc_steps(1, 1, [0], [1], [0]), [0, 0])

    def test_24_together_and_25(self):
        for l in range(1, 5):
            for letter in range(l):
                most = [0] * l
                most[letter] = 24
                beyond = [0] * l
                beyond[letter] = 25
                for name in OF_GRAMMARS:
                    self.assertNotEqual(ask(name, 1, l, cases.ALL_OF_ONE_LETTER, most), [-3], (name, most))
                    self.assertEqual(ask(name, 1, l, cases.ALL_OF_ONE_LETTER, beyond), [-3], (name, beyond))
                self.assertEqual(grammar.lc_steps(l, 1, most, most, most), [0, 0])
                self.assertEqual(grammar.lc_steps(l, 1, beyond, most, most), [-3])
                self.assertEqual(grammar.lc_steps(l, 1, most, beyond, most), [-3])
                self.assertEqual(grammar.lc_steps(l, 1, most, most, beyond), [-3])


class Refusals(unittest.TestCase):
    def test_sizes_just_within_and_just_outside(self):
        for name in OF_GRAMMARS:
            besides = BESIDES.get(name, [])
            for v in range(1, 9):
                for l in range(1, 5):
                    for r in (1, 2, 63, 64):
                        answer = call(name, v, l, r, *besides, [0, 0, 255] * r, [1] + [0] * (l - 1))
                        self.assertNotIn(answer, ([-2], [-3]), (name, v, l, r))
            for v, l, r in cases.WRONG_SIZES:
                self.assertEqual(call(name, v, l, r, *besides, [], []), [-2], (name, v, l, r))

    def test_what_is_given_is_not_so(self):
        for name in OF_GRAMMARS:
            for v, l, rules, counts in cases.WRONG_GIVEN:
                self.assertEqual(ask(name, v, l, rules, counts), [-3], (name, v, l, rules, counts))

    def test_2_before_3(self):
        for v, l, rules, counts in cases.WRONG_GIVEN:
            r = len(rules) // 3
            self.assertEqual(grammar.lc_trees(v, l, r, 1, rules, counts), [-2], (v, l, rules, counts))
            self.assertEqual(grammar.lc_pump(v, l, r, -1, rules, counts), [-2], (v, l, rules, counts))
            self.assertEqual(grammar.lc_pump(v, l, r, v, rules, counts), [-2], (v, l, rules, counts))

    def test_3_before_5(self):
        for name in ("lc_first", "lc_index"):
            self.assertEqual(ask(name, 1, 1, [0, 0, 255], [2]), [-5], name)
            self.assertEqual(ask(name, 1, 1, [0, 0, 255], [25]), [-3], name)
            self.assertEqual(ask(name, 1, 1, [0, 0, 255, 0, 0, 1], [2]), [-3], name)
        self.assertEqual(grammar.lc_steps(1, 1, [3], [1], [2]), [-5])
        self.assertEqual(grammar.lc_steps(1, 1, [3], [0], [2]), [-3])
        self.assertEqual(grammar.lc_steps(1, 1, [25], [1], [2]), [-3])


class NothingKept(unittest.TestCase):
    def test_no_call_changes_what_another_answers(self):
        asked = mixed_calls(23, 60)
        alone = [fresh_call(*one) for one in asked]
        self.assertEqual([call(*one) for one in asked], alone)
        backward = [call(*one) for one in reversed(asked)]
        self.assertEqual(backward[::-1], alone)

    def test_the_same_lists_for_all_calls(self):
        for v, l, r, rules, counts in random_cases(24, 100):
            given_rules = cases.Unchanging(rules)
            given_counts = cases.Unchanging(counts)
            for name in OF_GRAMMARS:
                self.assertEqual(ask(name, v, l, given_rules, given_counts), ask(name, v, l, rules, counts))
            grammar.lc_steps(l, 0, given_counts, [], given_counts)
            self.assertEqual((given_rules, given_counts), (rules, counts))

    def test_the_file_s_own_values_stay(self):
        before = {name: repr(value) for name, value in vars(grammar).items() if name.isupper()}
        self.assertGreater(len(before), 5)
        for one in mixed_calls(25, 20):
            call(*one)
        self.assertEqual({name: repr(value) for name, value in vars(grammar).items() if name.isupper()}, before)


class Together(unittest.TestCase):
    """The calls speak of the same trees, so their answers hang together."""

    def test_has_trees_first_and_index(self):
        for v, l, r, rules, counts in random_cases(26, 500):
            there = ask("lc_has", v, l, rules, counts) == [1]
            if there:
                # The answers are small here, far below p.
                self.assertGreater(ask("lc_trees", v, l, rules, counts)[1], 0)
                self.assertEqual(ask("lc_first", v, l, rules, counts)[0], sum(counts))
                self.assertGreater(ask("lc_index", v, l, rules, counts)[0], 0)
            else:
                self.assertEqual(ask("lc_trees", v, l, rules, counts), [0, 0])
                self.assertEqual(ask("lc_first", v, l, rules, counts), [-5])
                self.assertEqual(ask("lc_index", v, l, rules, counts), [-5])

    def test_has_what_is_pumped(self):
        # Where 0 says the one counts, and comes back to itself beside the others, it says both together.
        number = 0
        for v, l, r, rules, counts in random_cases(27, 500):
            for other in ([1] + [0] * (l - 1), [0] * (l - 1) + [2], [1] * l):
                if ask("lc_has", v, l, rules, other) == [1] and ask("lc_pump", v, l, rules, counts) == [1]:
                    both = [x + y for x, y in zip(counts, other)]
                    self.assertEqual(ask("lc_has", v, l, rules, both), [1], (rules, counts, other))
                    number += 1
        self.assertGreater(number, 30)

    def test_what_the_steps_come_to_is_there(self):
        # 0 says letter 0, and as often as one likes 0 0 beside it, or 0 1: a base and two steps.
        rules = [0, 0, 255, 0, 2, 0, 0, 3, 0, 2, 1, 1, 3, 1, 4, 1, 0, 255, 4, 1, 255]
        for n in range(9):
            for m in range(9):
                steps = grammar.lc_steps(2, 2, [1, 0], [2, 0, 1, 1], [n, m])
                self.assertEqual(ask("lc_has", 5, 2, rules, [n, m]), [0] if steps == [-5] else [1], (n, m))


if __name__ == "__main__":
    unittest.main()
