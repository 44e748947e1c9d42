import random
import unittest

from lettercounts.grammar import lc_first
from tests import calls, cases
from tests.oracle import first_by_words, random_cases


def word(*letters):
    """The answer that tells a word of these letters."""
    return [len(letters)] + list(letters)


def rules_of_words(*words):
    """Rules, with what variables they need, by which variable 0 says just these words of two or three letters.

    Variables 1 to 4 say letters 0 to 3 each; the last letters of a word of three come from a variable of its own.
    """
    rules = [number for letter in range(4) for number in (letter + 1, letter, 255)]
    following = 5
    for letters in words:
        if len(letters) == 2:
            rules.extend([0, letters[0] + 1, letters[1] + 1])
        else:
            rules.extend([0, letters[0] + 1, following, following, letters[1] + 1, letters[2] + 1])
            following += 1
    return following, rules


class FirstOrdinary(unittest.TestCase):
    def check_words(self, words, counts, expected):
        v, rules = rules_of_words(*words)
        self.assertEqual(lc_first(v, 4, len(rules) // 3, rules, counts), expected, (words, counts))

    def test_no_such_word(self):
        self.assertEqual(lc_first(1, 1, 1, [0, 0, 255], [2]), [-5])
        self.assertEqual(lc_first(1, 2, 1, [0, 1, 255], [1, 0]), [-5])
        self.assertEqual(lc_first(4, 2, 5, cases.AS_MANY, [3, 4]), [-5])
        self.assertEqual(lc_first(8, 1, 8, cases.EIGHT_LONG, [7]), [-5])
        self.assertEqual(lc_first(8, 1, 8, cases.TOO_LONG, [24]), [-5])
        self.check_words([(0, 1), (2, 3)], [1, 0, 1, 0], [-5])
        self.check_words([(0, 1), (2, 3)], [1, 1, 1, 1], [-5])

    def test_just_one_word(self):
        self.assertEqual(lc_first(1, 1, 1, [0, 0, 255], [1]), [1, 0])
        self.assertEqual(lc_first(1, 4, 1, [0, 3, 255], [0, 0, 0, 1]), [1, 3])
        self.assertEqual(lc_first(8, 1, 8, cases.EIGHT_LONG, [8]), word(*[0] * 8))
        self.check_words([(3, 0)], [1, 0, 0, 1], word(3, 0))
        self.check_words([(2, 0, 1)], [1, 1, 1, 0], word(2, 0, 1))
        for n in range(1, 13):
            self.assertEqual(lc_first(4, 2, 5, cases.AS_MANY, [n, n]), word(*[0] * n + [1] * n))

    def test_the_order_of_the_letters_is_that_of_the_trees(self):
        letters = [1, 0, 255, 2, 1, 255]
        self.assertEqual(lc_first(3, 2, 3, [0, 1, 2] + letters, [1, 1]), word(0, 1))
        self.assertEqual(lc_first(3, 2, 3, [0, 2, 1] + letters, [1, 1]), word(1, 0))

    def test_words_with_other_counts_are_passed_over(self):
        self.check_words([(0, 1), (1, 0), (0, 0), (2, 1)], [0, 1, 1, 0], word(2, 1))
        self.check_words([(0, 0, 0), (1, 0)], [1, 1, 0, 0], word(1, 0))

    def test_words_that_differ_in_the_first_letter(self):
        self.check_words([(1, 0), (0, 1)], [1, 1, 0, 0], word(0, 1))
        self.check_words([(0, 1), (1, 0)], [1, 1, 0, 0], word(0, 1))
        self.check_words([(3, 0, 1), (1, 3, 0)], [1, 1, 0, 1], word(1, 3, 0))
        self.check_words([(1, 3, 0), (3, 0, 1)], [1, 1, 0, 1], word(1, 3, 0))

    def test_words_that_differ_in_a_later_letter_alone(self):
        self.check_words([(0, 2, 1), (0, 1, 2)], [1, 1, 1, 0], word(0, 1, 2))
        self.check_words([(0, 1, 2), (0, 2, 1)], [1, 1, 1, 0], word(0, 1, 2))
        self.check_words([(3, 3, 2), (3, 2, 3)], [0, 0, 1, 2], word(3, 2, 3))
        # All words have five 0 in front; the last two letters are 2 1 or 1 2, by rules in either order.
        front = [0, 1, 2, 1, 3, 4, 3, 6, 6, 4, 6, 3, 6, 0, 255]
        for ends in ([2, 5, 7, 2, 7, 5], [2, 7, 5, 2, 5, 7]):
            rules = front + ends + [5, 1, 255, 7, 2, 255]
            self.assertEqual(lc_first(8, 3, 9, rules, [5, 1, 1]), word(0, 0, 0, 0, 0, 1, 2))

    def test_the_first_letter_counts_ahead_of_all_that_follow(self):
        self.check_words([(1, 0, 0), (0, 1, 0)], [2, 1, 0, 0], word(0, 1, 0))
        self.check_words([(0, 3, 1), (1, 0, 3)], [1, 1, 0, 1], word(0, 3, 1))

    def test_the_first_word_by_the_first_or_the_last_rule(self):
        words = [(2, 0, 1), (1, 2, 0), (0, 2, 1)]
        self.check_words(words, [1, 1, 1, 0], word(0, 2, 1))
        self.check_words(words[::-1], [1, 1, 1, 0], word(0, 2, 1))
        self.check_words(words[1:] + words[:1], [1, 1, 1, 0], word(0, 2, 1))

    def test_the_first_word_by_any_split_of_the_counts(self):
        # 0 comes to 1 2, of which one says a letter and the other two letters, either way round.
        singles = [3, 0, 255, 4, 1, 255, 5, 2, 255]
        # Variables 1 and 2 both say 0, and 2 1.
        rules = [0, 1, 2, 1, 0, 255, 1, 5, 4, 2, 5, 4, 2, 0, 255] + singles
        self.assertEqual(lc_first(6, 3, 8, rules, [1, 1, 1]), word(0, 2, 1))
        # Both say 2, and 0 1: the first word comes by the longer first part.
        rules = [0, 1, 2, 1, 2, 255, 1, 3, 4, 2, 3, 4, 2, 2, 255] + singles
        self.assertEqual(lc_first(6, 3, 8, rules, [1, 1, 1]), word(0, 1, 2))
        # Both say 1, and 0 2.
        rules = [0, 1, 2, 1, 1, 255, 1, 3, 5, 2, 3, 5, 2, 1, 255] + singles
        self.assertEqual(lc_first(6, 3, 8, rules, [1, 1, 1]), word(0, 2, 1))

    def test_a_first_part_that_begins_another_one(self):
        # 1 says 0 or 0 1, 2 says 1 2 or 2: both ways 0 1 2. With 2 1 and 1 besides: 0 1 2 stays the first.
        rules = [0, 1, 2, 1, 0, 255, 1, 3, 4, 2, 4, 5, 2, 2, 255, 3, 0, 255, 4, 1, 255, 5, 2, 255]
        self.assertEqual(lc_first(6, 3, 8, rules, [1, 1, 1]), word(0, 1, 2))
        # 1 says 0 or 0 2; behind 0 stands 2 1 or, behind 0 2, 1; 0 1 2 doesn't come.
        rules = [0, 1, 2, 1, 0, 255, 1, 3, 5, 2, 5, 4, 2, 1, 255, 3, 0, 255, 4, 1, 255, 5, 2, 255]
        self.assertEqual(lc_first(6, 3, 8, rules, [1, 1, 1]), word(0, 2, 1))
        # 1 says 0 or 0 0: the shorter one in front leaves 1 0, the longer one leaves 1.
        rules = [0, 1, 2, 1, 0, 255, 1, 3, 3, 2, 4, 3, 2, 1, 255, 3, 0, 255, 4, 1, 255]
        self.assertEqual(lc_first(5, 2, 7, rules, [2, 1]), word(0, 0, 1))

    def test_brackets(self):
        for n in range(1, 7):
            self.assertEqual(lc_first(4, 2, 6, cases.brackets(0, 1), [n, n]), word(*[0] * n + [1] * n))
            self.assertEqual(lc_first(4, 2, 6, cases.brackets(1, 0), [n, n]), word(*[1, 0] * n))
            self.assertEqual(lc_first(4, 2, 6, cases.brackets(1, 0), [n, n + 1]), [-5])

    def test_several_letters(self):
        rules = [0, 0, 0, 0, 2, 255, 0, 0, 255, 0, 3, 255, 0, 1, 255]
        self.assertEqual(lc_first(1, 4, 5, rules, [1, 2, 3, 1]), word(0, 1, 1, 2, 2, 2, 3))
        self.assertEqual(lc_first(1, 4, 5, rules, [0, 2, 0, 1]), word(1, 1, 3))
        self.assertEqual(lc_first(1, 4, 5, rules, [2, 0, 1, 0]), word(0, 0, 2))

    def test_only_trees_of_variable_0_count(self):
        rules = [1, 0, 255, 0, 1, 1, 2, 1, 255]
        self.assertEqual(lc_first(3, 2, 3, rules, [1, 0]), [-5])
        self.assertEqual(lc_first(3, 2, 3, rules, [0, 1]), [-5])
        self.assertEqual(lc_first(3, 2, 3, rules, [2, 0]), word(0, 0))

    def test_a_variable_that_says_no_word(self):
        self.assertEqual(lc_first(1, 1, 1, [0, 0, 0], [3]), [-5])
        self.assertEqual(lc_first(2, 1, 1, [1, 0, 255], [1]), [-5])
        self.assertEqual(lc_first(3, 1, 2, [0, 1, 2, 1, 0, 255], [1]), [-5])
        self.assertEqual(lc_first(3, 1, 2, [0, 2, 1, 1, 0, 255], [1]), [-5])
        # A rule that leads nowhere neither gives a word nor takes one away.
        self.assertEqual(lc_first(3, 2, 5, [0, 1, 2, 0, 2, 1, 1, 0, 255, 0, 1, 1, 0, 1, 255], [2, 0]), word(0, 0))
        self.assertEqual(lc_first(3, 2, 5, [0, 1, 2, 0, 2, 1, 1, 0, 255, 0, 1, 1, 0, 1, 255], [0, 1]), word(1))

    def test_no_tree_says_an_empty_word(self):
        self.assertEqual(lc_first(1, 1, 2, cases.ALL_OF_ONE_LETTER, [0]), [-5])
        self.assertEqual(lc_first(4, 2, 5, cases.AS_MANY, [0, 0]), [-5])
        self.assertEqual(lc_first(8, 4, 64, cases.full_grammar(), [0, 0, 0, 0]), [-5])

    def test_against_all_words(self):
        found = 0
        for v, l, r, rules, counts in random_cases(7, 1500):
            expected = first_by_words(rules, counts)
            self.assertEqual(lc_first(v, l, r, rules, counts), expected, (v, l, r, rules, counts))
            found += expected != [-5]
        self.assertGreater(found, 150)

    def test_longer_words_against_all_words(self):
        source = random.Random(8)
        not_sorted = 0
        for case in range(300):
            rules = [1, 0, 255, 2, 1, 255]
            for rule in range(8):
                rules.extend([source.choice([0, 0, 3, 4])] + [source.randrange(5) for part in range(2)])
            counts = [source.randint(2, 5), source.randint(2, 4)]
            expected = first_by_words(rules, counts)
            self.assertEqual(lc_first(5, 2, 10, rules, counts), expected, (rules, counts))
            not_sorted += expected[1:] != sorted(expected[1:])
        self.assertGreater(not_sorted, 30)


class FirstEdges(unittest.TestCase):
    def test_least_sizes(self):
        self.assertEqual(lc_first(1, 1, 1, [0, 0, 255], [1]), [1, 0])
        self.assertEqual(lc_first(1, 1, 1, [0, 0, 255], [24]), [-5])
        self.assertEqual(lc_first(1, 1, 1, [0, 0, 0], [1]), [-5])

    def test_greatest_sizes(self):
        self.assertEqual(lc_first(8, 4, 64, cases.even_grammar(), [6, 6, 6, 6]),
                         word(*[0] * 6 + [1] * 6 + [2] * 6 + [3] * 6))
        self.assertEqual(lc_first(8, 4, 64, [0, 7, 7] * 63 + [7, 3, 255], [0, 0, 0, 2]), word(3, 3))
        self.assertEqual(lc_first(8, 4, 64, [0, 7, 7] * 63 + [7, 3, 255], [0, 0, 0, 24]), [-5])
        # 7 comes by the last of 64 rules to a letter less than that of the 63 others.
        self.assertEqual(lc_first(8, 4, 64, [0, 7, 6] + [6, 3, 255] * 31 + [7, 3, 255] * 31 + [7, 2, 255],
                                  [0, 0, 1, 1]), word(2, 3))

    def test_24_together(self):
        self.assertEqual(lc_first(1, 1, 2, cases.ALL_OF_ONE_LETTER, [24]), word(*[0] * 24))
        self.assertEqual(lc_first(1, 4, 2, [0, 0, 0, 0, 3, 255], [0, 0, 0, 24]), word(*[3] * 24))
        self.assertEqual(lc_first(1, 4, 2, [0, 0, 0, 0, 3, 255], [1, 0, 0, 23]), [-5])
        self.assertEqual(lc_first(4, 2, 6, cases.brackets(0, 1), [12, 12]), word(*[0] * 12 + [1] * 12))
        self.assertEqual(lc_first(4, 2, 6, cases.brackets(1, 0), [12, 12]), word(*[1, 0] * 12))
        self.assertEqual(lc_first(5, 2, 8, cases.SAME_FROM_BEHIND, [12, 12]), word(*[0] * 6 + [1] * 12 + [0] * 6))
        self.assertEqual(lc_first(5, 2, 8, cases.SAME_FROM_BEHIND, [2, 22]), word(*[0] + [1] * 22 + [0]))
        self.assertEqual(lc_first(5, 2, 8, cases.SAME_FROM_BEHIND, [23, 1]), [-5])

    def test_24_together_falling(self):
        # First all of 3, then all of 2, and so on: variable k goes on with letter 3 - k or hands on to the next.
        rules = []
        for k in range(4):
            rules.extend([4 + k, 3 - k, 255, k, 4 + k, k])
            rules.extend([k, 4 + k, k + 1] if k < 3 else [k, 0, 255])
        self.assertEqual(lc_first(8, 4, 12, rules, [6, 6, 6, 6]), word(*[3] * 6 + [2] * 6 + [1] * 6 + [0] * 6))
        self.assertEqual(lc_first(8, 4, 12, rules, [1, 9, 2, 12]), word(*[3] * 12 + [2] * 2 + [1] * 9 + [0]))
        self.assertEqual(lc_first(8, 4, 12, rules, [0, 8, 8, 8]), [-5])

    def test_rules_that_are_there_twice(self):
        self.assertEqual(lc_first(1, 1, 4, cases.ALL_OF_ONE_LETTER * 2, [5]), word(0, 0, 0, 0, 0))
        self.assertEqual(lc_first(1, 1, 64, cases.ALL_OF_ONE_LETTER * 32, [24]), word(*[0] * 24))
        self.assertEqual(lc_first(1, 1, 2, [0, 0, 255] * 2, [2]), [-5])
        self.assertEqual(lc_first(3, 2, 6, [0, 2, 1, 1, 0, 255, 2, 1, 255] * 2, [1, 1]), word(1, 0))
        self.assertEqual(lc_first(4, 2, 12, cases.brackets(1, 0) * 2, [3, 3]), word(1, 0, 1, 0, 1, 0))


class FirstWrong(calls.Wrong, unittest.TestCase):
    call = staticmethod(lc_first)


class FirstInterface(calls.Interface, unittest.TestCase):
    call = staticmethod(lc_first)


if __name__ == "__main__":
    unittest.main()
