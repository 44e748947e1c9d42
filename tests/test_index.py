import random
import unittest

from lettercounts.grammar import lc_index
from tests import calls, cases
from tests.oracle import indexes_by_words, random_cases


def doublings(depth):
    """Each variable comes to the next one twice, so deep; the last one to letter 0."""
    rules = [number for a in range(depth) for number in (a, a + 1, a + 1)]
    return rules + [depth, 0, 255]


class IndexOrdinary(unittest.TestCase):
    def test_no_such_tree(self):
        self.assertEqual(lc_index(1, 1, 1, [0, 0, 255], [2]), [-5])
        self.assertEqual(lc_index(1, 2, 1, [0, 1, 255], [1, 0]), [-5])
        self.assertEqual(lc_index(4, 2, 5, cases.AS_MANY, [3, 4]), [-5])
        self.assertEqual(lc_index(8, 1, 8, cases.EIGHT_LONG, [7]), [-5])
        self.assertEqual([lc_index(8, 1, 8, cases.TOO_LONG, [n]) for n in range(25)], [[-5]] * 25)

    def test_a_letter_alone(self):
        self.assertEqual(lc_index(1, 1, 1, [0, 0, 255], [1]), [1])
        self.assertEqual(lc_index(1, 4, 1, [0, 3, 255], [0, 0, 0, 1]), [1])
        self.assertEqual(lc_index(1, 1, 2, cases.ALL_OF_ONE_LETTER, [1]), [1])

    def test_a_row_of_letters_to_one_side(self):
        to_the_left = [0, 1, 0, 0, 0, 255, 1, 0, 255]
        to_the_right = [0, 0, 1, 0, 0, 255, 1, 0, 255]
        for rules in (to_the_left, to_the_right):
            self.assertEqual([lc_index(2, 1, 3, rules, [n]) for n in range(1, 25)], [[1]] + [[2]] * 23)
        self.assertEqual(lc_index(8, 1, 8, cases.EIGHT_LONG, [8]), [2])
        self.assertEqual([lc_index(4, 2, 5, cases.AS_MANY, [n, n]) for n in range(1, 13)], [[2]] * 12)

    def test_trees_that_can_only_be_split_evenly(self):
        for depth in range(5):
            self.assertEqual(lc_index(depth + 1, 1, depth + 1, doublings(depth), [2 ** depth]), [depth + 1])

    def test_the_greater_of_two_that_differ(self):
        # Variable 3 says one letter, 2 two and 1 four, evenly: 1, 2 and 3 are the indexes.
        below = [1, 2, 2, 2, 3, 3, 3, 0, 255]
        for pair, letters, expected in [
                ((1, 3), 5, 3), ((3, 1), 5, 3), ((1, 2), 6, 3), ((2, 1), 6, 3), ((2, 3), 3, 2), ((3, 2), 3, 2),
                ((1, 1), 8, 4), ((2, 2), 4, 3), ((3, 3), 2, 2)]:
            rules = [0, pair[0], pair[1]] + below
            self.assertEqual(lc_index(4, 1, 4, rules, [letters]), [expected], pair)

    def test_the_same_index_by_trees_of_other_shapes(self):
        # 1 says two letters and 2 three, both with index 2.
        rules = [0, 1, 2, 1, 3, 3, 2, 3, 1, 3, 0, 255]
        self.assertEqual(lc_index(4, 1, 4, rules, [5]), [3])

    def test_what_is_added_singly_leaves_the_index(self):
        # 1 says four letters evenly; each 0 puts a letter more beside it.
        rules = [0, 0, 3, 0, 1, 3, 1, 2, 2, 2, 3, 3, 3, 0, 255]
        self.assertEqual([lc_index(4, 1, 5, rules, [n]) for n in range(4, 25)], [[-5]] + [[3]] * 20)

    def test_the_least_of_several(self):
        # By any shape of tree: a row of letters to one side is the least.
        self.assertEqual([lc_index(1, 1, 2, cases.ALL_OF_ONE_LETTER, [n]) for n in range(1, 25)],
                         [[1]] + [[2]] * 23)
        self.assertEqual(lc_index(1, 2, 3, [0, 0, 0, 0, 0, 255, 0, 1, 255], [3, 4]), [2])

    def test_the_least_by_any_of_the_rules(self):
        # Four letters evenly, by 1 1, or one behind another, by 2 3.
        evenly = [0, 1, 1]
        in_a_row = [0, 2, 3]
        below = [1, 3, 3, 2, 1, 3, 3, 0, 255]
        self.assertEqual(lc_index(4, 1, 5, evenly + in_a_row + below, [4]), [2])
        self.assertEqual(lc_index(4, 1, 5, in_a_row + evenly + below, [4]), [2])
        self.assertEqual(lc_index(4, 1, 4, evenly + below, [4]), [3])
        self.assertEqual(lc_index(4, 1, 4, in_a_row + below, [4]), [2])

    def test_the_least_by_any_split_of_the_counts(self):
        # 0 comes to 1 1, and 1 says one letter, two or three, so that four come by 1 and 3, 2 and 2, 3 and 1.
        rules = [0, 1, 1, 1, 0, 255, 1, 2, 2, 1, 3, 2, 3, 2, 2, 2, 0, 255]
        self.assertEqual([lc_index(4, 1, 6, rules, [n]) for n in range(1, 8)], [[-5], [2], [2], [2], [3], [3], [-5]])
        # Two of letter 1 and two of letter 0: only the split of two and two of the same letters is there.
        rules = [0, 1, 2, 1, 3, 3, 2, 4, 4, 3, 0, 255, 4, 1, 255]
        self.assertEqual(lc_index(5, 2, 5, rules, [2, 2]), [3])
        # With 5, which says 0 and the two of letter 1, one behind another, there is a better one.
        rules = [0, 1, 2, 0, 3, 5, 5, 3, 2, 1, 3, 3, 2, 4, 4, 3, 0, 255, 4, 1, 255]
        self.assertEqual(lc_index(6, 2, 7, rules, [2, 2]), [2])

    def test_a_part_with_more_letters_of_lesser_index(self):
        # 0 comes to 1 2. 1 says four letters evenly, or five in a row; 2 says one letter or two.
        rules = [0, 1, 2, 1, 3, 3, 1, 5, 4, 4, 5, 6, 6, 5, 3, 3, 5, 5, 5, 0, 255, 2, 0, 255, 2, 5, 5]
        self.assertEqual([lc_index(7, 1, 9, rules, [n]) for n in range(4, 9)], [[-5], [3], [2], [3], [-5]])

    def test_several_letters(self):
        # Evenly, but each letter may be any of four.
        letters = [number for x in range(4) for number in (3, x, 255)]
        rules = [0, 1, 1, 1, 2, 2, 2, 3, 3] + letters
        for counts in ([2, 2, 2, 2], [8, 0, 0, 0], [0, 0, 0, 8], [1, 0, 7, 0], [3, 1, 1, 3]):
            self.assertEqual(lc_index(4, 4, 7, rules, counts), [4], counts)
        for counts in ([2, 2, 2, 1], [9, 0, 0, 0], [4, 0, 0, 0], [3, 2, 2, 2]):
            self.assertEqual(lc_index(4, 4, 7, rules, counts), [-5], counts)

    def test_the_index_may_hang_on_the_letters(self):
        # Letter 0 comes in a row, letter 1 four together evenly.
        rules = [0, 1, 0, 0, 0, 255, 0, 2, 0, 1, 0, 255, 2, 3, 3, 3, 4, 4, 4, 1, 255]
        self.assertEqual(lc_index(5, 2, 7, rules, [5, 0]), [2])
        self.assertEqual(lc_index(5, 2, 7, rules, [1, 4]), [3])
        self.assertEqual(lc_index(5, 2, 7, rules, [5, 8]), [4])
        self.assertEqual(lc_index(5, 2, 7, rules, [5, 12]), [4])
        self.assertEqual(lc_index(5, 2, 7, rules, [5, 3]), [-5])

    def test_brackets(self):
        self.assertEqual([lc_index(4, 2, 6, cases.brackets(0, 1), [n, n]) for n in range(1, 13)], [[2]] * 12)

    def test_only_trees_of_variable_0_count(self):
        rules = [1, 0, 255, 0, 1, 1, 2, 1, 255]
        self.assertEqual(lc_index(3, 2, 3, rules, [1, 0]), [-5])
        self.assertEqual(lc_index(3, 2, 3, rules, [0, 1]), [-5])
        self.assertEqual(lc_index(3, 2, 3, rules, [2, 0]), [2])

    def test_a_variable_that_says_no_word(self):
        self.assertEqual(lc_index(1, 1, 1, [0, 0, 0], [3]), [-5])
        self.assertEqual(lc_index(2, 1, 1, [1, 0, 255], [1]), [-5])
        self.assertEqual(lc_index(3, 1, 2, [0, 1, 2, 1, 0, 255], [1]), [-5])
        self.assertEqual(lc_index(3, 1, 2, [0, 2, 1, 1, 0, 255], [1]), [-5])
        # A rule that leads nowhere neither gives a tree nor takes one away.
        self.assertEqual(lc_index(3, 1, 4, [0, 1, 2, 0, 2, 1, 1, 0, 255, 0, 1, 1], [2]), [2])

    def test_no_tree_says_an_empty_word(self):
        self.assertEqual(lc_index(1, 1, 2, cases.ALL_OF_ONE_LETTER, [0]), [-5])
        self.assertEqual(lc_index(4, 2, 5, cases.AS_MANY, [0, 0]), [-5])
        self.assertEqual(lc_index(8, 4, 64, cases.full_grammar(), [0, 0, 0, 0]), [-5])

    def check_against_all_trees(self, v, l, rules, counts):
        """How many different indexes the trees have, the least of which was answered."""
        indexes = indexes_by_words(rules, counts)
        self.assertEqual(lc_index(v, l, len(rules) // 3, rules, counts), (indexes + [-5])[:1], (v, l, rules, counts))
        return len(indexes)

    def test_against_all_trees(self):
        found = [self.check_against_all_trees(v, l, rules, counts)
                 for v, l, r, rules, counts in random_cases(9, 1500)]
        self.assertGreater(sum(number > 0 for number in found), 150)

    def test_longer_words_against_all_trees(self):
        source = random.Random(10)
        found = []
        for case in range(400):
            rules = [4, 0, 255]
            # A rule for each variable that comes to later ones, so that all say words; then any others.
            for a in range(4):
                rules.extend([a, source.randrange(a + 1, 5), source.randrange(a + 1, 5)])
            for rule in range(3):
                rules.extend([source.randrange(4), source.randrange(5), source.randrange(5)])
            found.append(self.check_against_all_trees(5, 1, rules, [source.randint(3, 12)]))
        self.assertGreater(sum(number > 0 for number in found), 50)
        self.assertGreater(sum(number > 1 for number in found), 20)


class IndexEdges(unittest.TestCase):
    def test_least_sizes(self):
        self.assertEqual(lc_index(1, 1, 1, [0, 0, 255], [1]), [1])
        self.assertEqual(lc_index(1, 1, 1, [0, 0, 255], [24]), [-5])
        self.assertEqual(lc_index(1, 1, 1, [0, 0, 0], [1]), [-5])

    def test_greatest_sizes(self):
        self.assertEqual(lc_index(8, 4, 64, cases.even_grammar(), [6, 6, 6, 6]), [2])
        self.assertEqual(lc_index(8, 4, 64, [0, 7, 7] * 63 + [7, 3, 255], [0, 0, 0, 2]), [2])
        self.assertEqual(lc_index(8, 4, 64, [0, 7, 7] * 63 + [7, 3, 255], [0, 0, 0, 24]), [-5])
        self.assertEqual(lc_index(8, 4, 64, [0, 7, 7] * 63 + [0, 3, 255], [0, 0, 0, 1]), [1])

    def test_24_together(self):
        self.assertEqual(lc_index(1, 1, 2, cases.ALL_OF_ONE_LETTER, [24]), [2])
        self.assertEqual(lc_index(5, 2, 8, cases.SAME_FROM_BEHIND, [12, 12]), [2])
        self.assertEqual(lc_index(5, 2, 8, cases.SAME_FROM_BEHIND, [23, 1]), [-5])
        # Three times eight letters, each eight evenly: 4 and 4 make 5, which stays beside the third 4.
        rules = [0, 1, 2, 2, 1, 1, 1, 3, 3, 3, 4, 4, 4, 5, 5, 5, 0, 255]
        self.assertEqual([lc_index(6, 1, 6, rules, [n]) for n in (16, 23, 24)], [[-5], [-5], [5]])
        # Eight letters evenly, and one letter after another beside them.
        rules = [0, 0, 4, 0, 1, 4, 1, 2, 2, 2, 3, 3, 3, 4, 4, 4, 0, 255]
        self.assertEqual([lc_index(5, 1, 6, rules, [n]) for n in (8, 9, 24)], [[-5], [4], [4]])

    def test_the_greatest_index_of_24_letters(self):
        # 1 says 16 letters evenly, with index 5, and 2 says eight with index 4.
        below = doublings(5)[3:]
        self.assertEqual(lc_index(6, 1, 6, [0, 1, 2] + below, [24]), [5])
        self.assertEqual(lc_index(6, 1, 6, [0, 2, 1] + below, [24]), [5])

    def test_rules_that_are_there_twice(self):
        self.assertEqual(lc_index(1, 1, 4, cases.ALL_OF_ONE_LETTER * 2, [5]), [2])
        self.assertEqual(lc_index(1, 1, 64, cases.ALL_OF_ONE_LETTER * 32, [24]), [2])
        self.assertEqual(lc_index(1, 1, 2, [0, 0, 255] * 2, [1]), [1])
        self.assertEqual(lc_index(1, 1, 64, [0, 0, 255] * 64, [1]), [1])
        self.assertEqual(lc_index(4, 1, 8, doublings(3) * 2, [8]), [4])


class IndexWrong(calls.Wrong, unittest.TestCase):
    call = staticmethod(lc_index)


class IndexInterface(calls.Interface, unittest.TestCase):
    call = staticmethod(lc_index)


if __name__ == "__main__":
    unittest.main()
