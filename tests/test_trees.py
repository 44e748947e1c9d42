import contextlib
import inspect
import io
import math
import unittest

from lettercounts.grammar import lc_trees
from tests import cases
from tests.oracle import random_cases, trees_by_words

PRIME = cases.MOST


def shapes(n):
    """How many trees with n letters there are, if it's not asked which variables and letters."""
    return math.comb(2 * n - 2, n - 1) // n


def arrangements(counts):
    """How many words have the counts."""
    number = math.factorial(sum(counts))
    for count in counts:
        number //= math.factorial(count)
    return number


class TreesOrdinary(unittest.TestCase):
    def test_no_tree(self):
        self.assertEqual(lc_trees(1, 1, 1, 10, [0, 0, 255], [2]), [0, 0])
        self.assertEqual(lc_trees(1, 1, 1, 10, [0, 0, 0], [3]), [0, 0])
        self.assertEqual(lc_trees(2, 1, 1, 10, [1, 0, 255], [1]), [0, 0])
        self.assertEqual(lc_trees(1, 2, 1, 10, [0, 1, 255], [1, 0]), [0, 0])
        self.assertEqual(lc_trees(3, 1, 2, 10, [0, 1, 2, 1, 0, 255], [1]), [0, 0])
        self.assertEqual(lc_trees(4, 2, 5, 10, cases.AS_MANY, [3, 4]), [0, 0])

    def test_just_one_tree(self):
        self.assertEqual(lc_trees(1, 1, 1, 10, [0, 0, 255], [1]), [0, 1])
        self.assertEqual(lc_trees(8, 1, 8, 10, cases.EIGHT_LONG, [8]), [0, 1])
        for n in range(1, 13):
            self.assertEqual(lc_trees(4, 2, 5, 10, cases.AS_MANY, [n, n]), [0, 1])

    def test_trees_that_say_the_same_word_count_each(self):
        self.assertEqual(lc_trees(1, 1, 2, 10, cases.ALL_OF_ONE_LETTER, [3]), [0, 2])
        for n in range(1, 25):
            self.assertEqual(lc_trees(1, 1, 2, PRIME, cases.ALL_OF_ONE_LETTER, [n]), [0, shapes(n) % PRIME])

    def test_the_same_word_by_different_rules(self):
        rules = [0, 1, 2, 0, 2, 1, 1, 0, 255, 2, 0, 255]
        self.assertEqual(lc_trees(3, 1, 4, 10, rules, [2]), [0, 2])
        rules = [0, 1, 1, 0, 1, 2, 1, 0, 255, 2, 0, 255]
        self.assertEqual(lc_trees(3, 1, 4, 10, rules, [2]), [0, 2])

    def test_a_pair_of_two_variables_and_of_one_twice(self):
        # 1 and 2 each say either letter: 1 2 says a b and b a, and so does 1 1.
        letters = [1, 0, 255, 1, 1, 255, 2, 0, 255, 2, 1, 255]
        self.assertEqual(lc_trees(3, 2, 5, 10, [0, 1, 2] + letters, [1, 1]), [0, 2])
        self.assertEqual(lc_trees(3, 2, 5, 10, [0, 2, 1] + letters, [1, 1]), [0, 2])
        self.assertEqual(lc_trees(3, 2, 5, 10, [0, 1, 1] + letters, [1, 1]), [0, 2])
        self.assertEqual(lc_trees(3, 2, 5, 10, [0, 1, 1] + letters, [2, 0]), [0, 1])
        self.assertEqual(lc_trees(3, 2, 6, 10, [0, 1, 2, 0, 2, 1] + letters, [1, 1]), [0, 4])

    def test_several_letters(self):
        rules = [0, 0, 0, 0, 0, 255, 0, 1, 255, 0, 2, 255]
        for counts in ([1, 1, 1], [2, 1, 0], [0, 3, 1], [2, 2, 2], [0, 0, 4], [4, 0, 3]):
            expected = shapes(sum(counts)) * arrangements(counts) % PRIME
            self.assertEqual(lc_trees(1, 3, 4, PRIME, rules, counts), [0, expected], counts)

    def test_a_number_greater_than_p(self):
        # 42 trees.
        self.assertEqual(lc_trees(1, 1, 2, 43, cases.ALL_OF_ONE_LETTER, [6]), [0, 42])
        self.assertEqual(lc_trees(1, 1, 2, 41, cases.ALL_OF_ONE_LETTER, [6]), [0, 1])
        self.assertEqual(lc_trees(1, 1, 2, 40, cases.ALL_OF_ONE_LETTER, [6]), [0, 2])
        self.assertEqual(lc_trees(1, 1, 2, 4, cases.ALL_OF_ONE_LETTER, [6]), [0, 2])

    def test_trees_whose_number_leaves_no_rest(self):
        for p in (2, 3, 6, 7, 14, 21, 42):
            self.assertEqual(lc_trees(1, 1, 2, p, cases.ALL_OF_ONE_LETTER, [6]), [0, 0], p)

    def test_no_tree_says_an_empty_word(self):
        self.assertEqual(lc_trees(1, 1, 2, 10, cases.ALL_OF_ONE_LETTER, [0]), [0, 0])
        self.assertEqual(lc_trees(4, 2, 5, 10, cases.AS_MANY, [0, 0]), [0, 0])
        self.assertEqual(lc_trees(8, 4, 64, 10, cases.full_grammar(), [0, 0, 0, 0]), [0, 0])

    def test_against_all_words(self):
        many = 0
        for v, l, r, rules, counts in random_cases(4, 1500):
            number = trees_by_words(rules, counts)
            for p in (2, 3, 10, PRIME):
                self.assertEqual(lc_trees(v, l, r, p, rules, counts), [0, number % p], (v, l, r, p, rules, counts))
            many += number > 1
        self.assertGreater(many, 100)


class TreesEdges(unittest.TestCase):
    def test_least_p(self):
        self.assertEqual([lc_trees(1, 1, 2, 2, cases.ALL_OF_ONE_LETTER, [n]) for n in range(1, 25)],
                         [[0, shapes(n) % 2] for n in range(1, 25)])

    def test_greatest_p(self):
        self.assertEqual(lc_trees(1, 1, 2, PRIME, cases.ALL_OF_ONE_LETTER, [24]), [0, 343059613650 % PRIME])
        # 8 letters in one shape, by rules that are there several times: 2 ** 29 trees, then 2 ** 31, which is p + 1.
        rules = [0, 1, 1] * 8 + [1, 2, 2] * 2 + [2, 3, 3] + [3, 0, 255] * 8
        self.assertEqual(lc_trees(4, 1, 19, PRIME, rules, [8]), [0, 2 ** 29])
        rules = [0, 1, 1] * 32 + [1, 2, 2] * 2 + [2, 3, 3] + [3, 0, 255] * 8
        self.assertEqual(lc_trees(4, 1, 43, PRIME, rules, [8]), [0, 1])
        self.assertEqual(lc_trees(4, 1, 43, PRIME - 1, rules, [8]), [0, 2])

    def test_least_sizes(self):
        self.assertEqual(lc_trees(1, 1, 1, 2, [0, 0, 255], [1]), [0, 1])
        self.assertEqual(lc_trees(1, 1, 1, 2, [0, 0, 255], [24]), [0, 0])

    def test_greatest_sizes(self):
        counts = [6, 6, 6, 6]
        expected = 4 ** 23 * shapes(24) * arrangements(counts)
        for p in (PRIME, 1000003):
            self.assertEqual(lc_trees(8, 4, 64, p, cases.even_grammar(), counts), [0, expected % p], p)
        self.assertEqual(lc_trees(8, 4, 64, 100, [0, 7, 7] * 63 + [7, 3, 255], [0, 0, 0, 2]), [0, 63])

    def test_24_together(self):
        both = [0, 0, 0, 0, 0, 255, 0, 1, 255]
        for counts in ([12, 12], [24, 0], [0, 24], [1, 23], [17, 7]):
            expected = shapes(24) * arrangements(counts) % PRIME
            self.assertEqual(lc_trees(1, 2, 3, PRIME, both, counts), [0, expected], counts)
        self.assertEqual(lc_trees(1, 4, 2, PRIME, [0, 0, 0, 0, 3, 255], [0, 0, 0, 24]), [0, shapes(24) % PRIME])
        self.assertEqual(lc_trees(1, 4, 2, PRIME, [0, 0, 0, 0, 3, 255], [1, 0, 0, 23]), [0, 0])

    def test_rules_that_are_there_twice_count_as_two(self):
        self.assertEqual(lc_trees(1, 1, 2, 10, [0, 0, 255] * 2, [1]), [0, 2])
        self.assertEqual(lc_trees(2, 1, 3, 10, [0, 1, 1, 0, 1, 1, 1, 0, 255], [2]), [0, 2])
        self.assertEqual(lc_trees(2, 1, 3, 10, [0, 1, 1, 1, 0, 255, 1, 0, 255], [2]), [0, 4])
        self.assertEqual(lc_trees(1, 1, 64, 100, [0, 0, 255] * 64, [1]), [0, 64])
        for n in range(1, 25):
            expected = 2 ** (2 * n - 1) * shapes(n) % PRIME
            self.assertEqual(lc_trees(1, 1, 4, PRIME, cases.ALL_OF_ONE_LETTER * 2, [n]), [0, expected], n)
        expected = 32 ** 47 * shapes(24) % PRIME
        self.assertEqual(lc_trees(1, 1, 64, PRIME, cases.ALL_OF_ONE_LETTER * 32, [24]), [0, expected])


class TreesWrong(unittest.TestCase):
    WRONG_P = (1, 0, -1, -2, -255, -cases.MOST, cases.LEAST)

    def test_p_out_of_range(self):
        for p in self.WRONG_P:
            self.assertEqual(lc_trees(1, 1, 2, p, cases.ALL_OF_ONE_LETTER, [3]), [-2], p)
            self.assertEqual(lc_trees(1, 1, 2, p, cases.ALL_OF_ONE_LETTER, [0]), [-2], p)

    def test_a_wrong_p_comes_ahead_of_what_is_given(self):
        for p in self.WRONG_P:
            for v, l, rules, counts in cases.WRONG_GIVEN:
                self.assertEqual(lc_trees(v, l, len(rules) // 3, p, rules, counts), [-2], (p, v, l, rules, counts))

    def test_sizes_out_of_range(self):
        for v, l, r in cases.WRONG_SIZES:
            for p in (2, 1000, PRIME, 1, cases.LEAST):
                self.assertEqual(lc_trees(v, l, r, p, [], []), [-2], (v, l, r, p))

    def test_rules_and_counts_that_are_not_so(self):
        for v, l, rules, counts in cases.WRONG_GIVEN:
            for p in (2, PRIME):
                self.assertEqual(lc_trees(v, l, len(rules) // 3, p, rules, counts), [-3], (v, l, rules, counts))

    def test_a_wrong_rule_in_any_place(self):
        for k in range(64):
            rules = [0, 0, 255] * 64
            rules[3 * k + 1] = 1
            self.assertEqual(lc_trees(1, 1, 64, 2, rules, [1]), [-3], k)


class TreesInterface(unittest.TestCase):
    def test_names(self):
        self.assertEqual(list(inspect.signature(lc_trees).parameters), ["v", "l", "r", "p", "rules", "counts"])

    def test_a_list_of_whole_numbers_is_given_back(self):
        for arguments in [(1, 1, 1, 2, [0, 0, 255], [1]), (1, 1, 1, 2, [0, 0, 255], [2]),
                          (0, 1, 1, 2, [], []), (1, 1, 1, 1, [0, 0, 255], [1]), (1, 1, 1, 2, [0, 0, 255], [25])]:
            self.assertTrue(cases.is_list_of_numbers(lc_trees(*arguments)), arguments)

    def test_what_is_handed_in_stays(self):
        for v, l, r, rules, counts in random_cases(5, 100):
            first = lc_trees(v, l, r, 7, cases.Unchanging(rules), cases.Unchanging(counts))
            given_rules = list(rules)
            given_counts = list(counts)
            self.assertEqual(lc_trees(v, l, r, 7, given_rules, given_counts), first)
            self.assertEqual((given_rules, given_counts), (rules, counts))
        for p, answer in ((1, [-2]), (2, [-3])):
            rules = [1, 0, 255]
            counts = [25]
            self.assertEqual(lc_trees(1, 1, 1, p, rules, counts), answer)
            self.assertEqual((rules, counts), ([1, 0, 255], [25]))

    def test_nothing_is_kept(self):
        calls = [(v, l, r, p, rules, counts) for v, l, r, rules, counts in random_cases(6, 100) for p in (1, 5, PRIME)]
        forward = [lc_trees(*call) for call in calls]
        backward = [lc_trees(*call) for call in reversed(calls)]
        self.assertEqual(forward, backward[::-1])
        answer = lc_trees(1, 1, 1, 2, [0, 0, 255], [1])
        answer.append(7)
        self.assertEqual(lc_trees(1, 1, 1, 2, [0, 0, 255], [1]), [0, 1])

    def test_nothing_is_printed(self):
        printed = io.StringIO()
        with contextlib.redirect_stdout(printed), contextlib.redirect_stderr(printed):
            lc_trees(1, 1, 2, 10, cases.ALL_OF_ONE_LETTER, [5])
            lc_trees(1, 1, 2, 1, cases.ALL_OF_ONE_LETTER, [5])
        self.assertEqual(printed.getvalue(), "")


if __name__ == "__main__":
    unittest.main()
