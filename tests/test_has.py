import unittest

from lettercounts.grammar import lc_has
from tests import calls, cases
from tests.oracle import random_cases, trees_by_words


class HasOrdinary(unittest.TestCase):
    def test_a_letter_alone(self):
        self.assertEqual(lc_has(1, 1, 1, [0, 0, 255], [1]), [1])
        self.assertEqual(lc_has(1, 1, 1, [0, 0, 255], [2]), [0])

    def test_each_letter_is_told_apart(self):
        rules = [0, 1, 255]
        self.assertEqual(lc_has(1, 3, 1, rules, [0, 1, 0]), [1])
        self.assertEqual(lc_has(1, 3, 1, rules, [1, 0, 0]), [0])
        self.assertEqual(lc_has(1, 3, 1, rules, [0, 0, 1]), [0])
        self.assertEqual(lc_has(1, 3, 1, rules, [1, 1, 0]), [0])

    def test_a_letter_that_is_not_asked_for_helps_nothing(self):
        rules = [0, 1, 2, 1, 0, 255, 2, 1, 255]
        self.assertEqual(lc_has(3, 2, 3, rules, [1, 1]), [1])
        self.assertEqual(lc_has(3, 2, 3, rules, [1, 0]), [0])
        self.assertEqual(lc_has(3, 2, 3, rules, [0, 1]), [0])
        self.assertEqual(lc_has(3, 2, 3, rules, [2, 0]), [0])
        self.assertEqual(lc_has(3, 2, 3, rules, [0, 2]), [0])

    def test_only_trees_of_variable_0_count(self):
        rules = [1, 0, 255, 0, 1, 1]
        self.assertEqual(lc_has(2, 1, 2, rules, [1]), [0])
        self.assertEqual(lc_has(2, 1, 2, rules, [2]), [1])

    def test_words_that_come_some_rules_deep(self):
        self.assertEqual([lc_has(8, 1, 8, cases.EIGHT_LONG, [n]) for n in range(25)],
                         [[1] if n == 8 else [0] for n in range(25)])
        self.assertEqual([lc_has(8, 1, 8, cases.TOO_LONG, [n]) for n in range(25)], [[0]] * 25)

    def test_variables_that_come_back_to_themselves(self):
        # 0 comes to a letter or 0 1, and 1 to 0 0: each round brings two letters more.
        rules = [0, 0, 255, 0, 0, 1, 1, 0, 0]
        self.assertEqual([lc_has(2, 1, 3, rules, [n]) for n in range(25)], [[n % 2] for n in range(25)])

    def test_as_many_of_one_letter_as_of_another(self):
        for n in range(13):
            for m in range(13):
                expected = [1] if n == m and n > 0 else [0]
                self.assertEqual(lc_has(4, 2, 5, cases.AS_MANY, [n, m]), expected, (n, m))

    def test_the_order_of_the_rules_is_free(self):
        rules = [2, 1, 255, 1, 0, 255, 3, 0, 2, 0, 1, 3, 0, 1, 2]
        self.assertEqual(lc_has(4, 2, 5, rules, [5, 5]), [1])
        self.assertEqual(lc_has(4, 2, 5, rules, [5, 4]), [0])

    def test_a_variable_that_says_no_word(self):
        self.assertEqual(lc_has(1, 1, 1, [0, 0, 0], [3]), [0])
        self.assertEqual(lc_has(2, 1, 2, [0, 0, 1, 1, 0, 255], [3]), [0])
        self.assertEqual(lc_has(3, 1, 2, [0, 1, 2, 1, 0, 255], [1]), [0])
        self.assertEqual(lc_has(2, 1, 1, [1, 0, 255], [1]), [0])
        # A rule that leads nowhere takes nothing from the others.
        self.assertEqual(lc_has(2, 1, 3, [0, 1, 1, 1, 1, 1, 0, 0, 255], [1]), [1])

    def test_no_tree_says_an_empty_word(self):
        self.assertEqual(lc_has(1, 1, 2, cases.ALL_OF_ONE_LETTER, [0]), [0])
        self.assertEqual(lc_has(4, 2, 5, cases.AS_MANY, [0, 0]), [0])
        self.assertEqual(lc_has(8, 4, 64, cases.full_grammar(), [0, 0, 0, 0]), [0])

    def test_against_all_words(self):
        answers = []
        for v, l, r, rules, counts in random_cases(1, 1500):
            expected = [1] if trees_by_words(rules, counts) > 0 else [0]
            self.assertEqual(lc_has(v, l, r, rules, counts), expected, (v, l, r, rules, counts))
            answers.append(expected[0])
        self.assertGreater(sum(answers), 150)
        self.assertLess(sum(answers), 1350)


class HasEdges(unittest.TestCase):
    def test_least_sizes(self):
        self.assertEqual(lc_has(1, 1, 1, [0, 0, 255], [1]), [1])
        self.assertEqual(lc_has(1, 1, 1, [0, 0, 0], [1]), [0])
        self.assertEqual(lc_has(1, 1, 1, [0, 0, 255], [24]), [0])

    def test_greatest_sizes(self):
        self.assertEqual(lc_has(8, 4, 64, cases.full_grammar(), [6, 6, 6, 6]), [1])
        self.assertEqual(lc_has(8, 4, 64, [7, 7, 7] * 63 + [0, 3, 255], [0, 0, 0, 1]), [1])
        self.assertEqual(lc_has(8, 4, 64, [0, 7, 7] * 63 + [7, 3, 255], [0, 0, 0, 2]), [1])
        self.assertEqual(lc_has(8, 4, 64, [0, 7, 7] * 63 + [7, 3, 255], [0, 0, 0, 24]), [0])

    def test_24_together(self):
        self.assertEqual(lc_has(1, 1, 2, cases.ALL_OF_ONE_LETTER, [24]), [1])
        self.assertEqual(lc_has(4, 2, 5, cases.AS_MANY, [12, 12]), [1])
        self.assertEqual(lc_has(4, 2, 5, cases.AS_MANY, [13, 11]), [0])
        self.assertEqual(lc_has(1, 4, 2, cases.ALL_OF_ONE_LETTER, [24, 0, 0, 0]), [1])
        self.assertEqual(lc_has(1, 4, 2, cases.ALL_OF_ONE_LETTER, [23, 0, 0, 1]), [0])
        self.assertEqual(lc_has(1, 4, 2, [0, 0, 0, 0, 3, 255], [0, 0, 0, 24]), [1])
        # Eight letters three times: 0 comes to 1 2, 2 to 1 1, and 1 in three doublings to eight letters.
        rules = [0, 1, 2, 2, 1, 1, 1, 3, 3, 3, 4, 4, 4, 5, 5, 5, 0, 255]
        self.assertEqual([lc_has(6, 1, 6, rules, [n]) for n in (8, 16, 23, 24)], [[0], [0], [0], [1]])

    def test_rules_that_are_there_twice(self):
        self.assertEqual(lc_has(1, 1, 4, cases.ALL_OF_ONE_LETTER * 2, [5]), [1])
        self.assertEqual(lc_has(1, 1, 2, [0, 0, 255] * 2, [2]), [0])
        self.assertEqual(lc_has(1, 1, 64, [0, 0, 255] * 64, [1]), [1])
        self.assertEqual(lc_has(1, 1, 64, cases.ALL_OF_ONE_LETTER * 32, [24]), [1])
        self.assertEqual(lc_has(2, 1, 4, [0, 1, 1, 1, 0, 255] * 2, [2]), [1])


class HasJustWithin(unittest.TestCase):
    def test_just_within(self):
        self.assertEqual(lc_has(8, 4, 2, [7, 7, 7, 0, 3, 255], [0, 0, 0, 1]), [1])
        self.assertEqual(lc_has(2, 1, 2, [0, 1, 1, 1, 0, 255], [24]), [0])


class HasWrong(calls.Wrong, unittest.TestCase):
    call = staticmethod(lc_has)


class HasInterface(calls.Interface, unittest.TestCase):
    call = staticmethod(lc_has)


if __name__ == "__main__":
    unittest.main()
