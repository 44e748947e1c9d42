import inspect
import random
import unittest

from lettercounts.grammar import lc_pump
from tests import calls, cases
from tests.oracle import letters_first, pump_by_rows, random_cases


def all_pumps(v, l, a, rules, number_of_counts):
    """The counts of two letters, each below the number, to which the answer is 1."""
    found = []
    for n in range(number_of_counts):
        for m in range(number_of_counts):
            if lc_pump(v, l, len(rules) // 3, a, rules, [n, m]) == [1]:
                found.append((n, m))
    return found


class PumpOrdinary(unittest.TestCase):
    def test_back_by_one_rule(self):
        behind = [0, 1, 0, 1, 0, 255]
        before = [0, 0, 1, 1, 0, 255]
        for rules in (behind, before):
            self.assertEqual(lc_pump(2, 1, 2, 0, rules, [1]), [1])
            # As often as one likes.
            self.assertEqual([lc_pump(2, 1, 2, 0, rules, [n]) for n in range(25)], [[0]] + [[1]] * 24)
            # The letter's own variable never comes to itself.
            self.assertEqual([lc_pump(2, 1, 2, 1, rules, [n]) for n in range(25)], [[0]] * 25)

    def test_a_itself_need_not_say_a_word(self):
        # 0 comes to 1 0 alone, so no tree of 0 is ever closed; the row is there all the same.
        self.assertEqual(lc_pump(2, 1, 2, 0, [0, 1, 0, 1, 0, 255], [3]), [1])

    def test_back_only_by_way_of_other_variables(self):
        # 0 to 3 1, 1 to 3 2, 2 to 3 0: three letters a round.
        rules = [0, 3, 1, 1, 3, 2, 2, 3, 0, 3, 0, 255]
        for a in range(3):
            self.assertEqual([lc_pump(4, 1, 4, a, rules, [n]) for n in range(25)],
                             [[1] if n > 0 and n % 3 == 0 else [0] for n in range(25)])
        self.assertEqual([lc_pump(4, 1, 4, 3, rules, [n]) for n in range(25)], [[0]] * 25)

    def test_letters_on_both_sides(self):
        # 0 comes to 1 3, 3 to 0 2: letter 0 in front of the one 0, letter 1 behind it.
        self.assertEqual(all_pumps(4, 2, 0, cases.AS_MANY, 6), [(n, n) for n in range(1, 6)])
        # From 3: 0 2, then 1 3 2.
        self.assertEqual(all_pumps(4, 2, 3, cases.AS_MANY, 6), [(n, n) for n in range(1, 6)])
        self.assertEqual(all_pumps(4, 2, 1, cases.AS_MANY, 6), [])
        self.assertEqual(all_pumps(4, 2, 2, cases.AS_MANY, 6), [])

    def test_before_behind_and_between(self):
        letters = [2, 0, 255, 3, 1, 255]
        for rules in ([0, 0, 1, 1, 2, 3], [0, 1, 0, 1, 2, 3], [0, 2, 1, 1, 0, 3], [0, 1, 2, 1, 3, 0]):
            self.assertEqual(all_pumps(4, 2, 0, rules + letters, 5), [(n, n) for n in range(1, 5)], rules)

    def test_a_that_variable_0_does_not_reach(self):
        rules = [0, 0, 255, 2, 1, 2, 1, 1, 255]
        self.assertEqual(lc_pump(3, 2, 3, 2, rules, [0, 1]), [1])
        self.assertEqual(lc_pump(3, 2, 3, 2, rules, [1, 0]), [0])
        self.assertEqual(lc_pump(3, 2, 3, 0, rules, [1, 0]), [0])
        self.assertEqual(lc_pump(3, 2, 3, 0, rules, [0, 1]), [0])

    def test_only_rows_from_a_with_a_count(self):
        # 1 comes back by letter 0, 2 by letter 1; 0 comes to both, but never back.
        rules = [0, 1, 2, 1, 3, 1, 2, 4, 2, 3, 0, 255, 4, 1, 255, 1, 0, 255, 2, 1, 255]
        self.assertEqual(all_pumps(5, 2, 0, rules, 4), [])
        self.assertEqual(all_pumps(5, 2, 1, rules, 4), [(1, 0), (2, 0), (3, 0)])
        self.assertEqual(all_pumps(5, 2, 2, rules, 4), [(0, 1), (0, 2), (0, 3)])
        # 0 comes to 0 by letter 0, and to 1 by letter 1, and 1 does not come back.
        rules = [0, 2, 0, 0, 3, 1, 2, 0, 255, 3, 1, 255, 1, 0, 255]
        self.assertEqual(all_pumps(4, 2, 0, rules, 4), [(1, 0), (2, 0), (3, 0)])
        self.assertEqual(all_pumps(4, 2, 1, rules, 4), [])

    def test_never_back(self):
        self.assertEqual(lc_pump(1, 1, 1, 0, [0, 0, 255], [1]), [0])
        for a in range(8):
            self.assertEqual([lc_pump(8, 1, 8, a, cases.EIGHT_LONG, [n]) for n in range(25)], [[0]] * 25, a)
            self.assertEqual([lc_pump(8, 1, 8, a, cases.TOO_LONG, [n]) for n in range(25)], [[0]] * 25, a)

    def test_no_rule_for_a(self):
        self.assertEqual(lc_pump(2, 1, 1, 1, [0, 0, 255], [1]), [0])
        self.assertEqual(lc_pump(2, 1, 2, 1, [0, 1, 0, 0, 0, 255], [1]), [0])

    def test_the_other_variable_says_no_word(self):
        for pair in ([1, 0], [0, 1]):
            self.assertEqual(lc_pump(2, 1, 1, 0, [0] + pair, [1]), [0])
            self.assertEqual(lc_pump(2, 1, 2, 0, [0] + pair + [1, 1, 1], [1]), [0])
            self.assertEqual(lc_pump(2, 1, 2, 0, [0] + pair + [0, 0, 255], [1]), [0])
            # Another rule, whose other variable says a letter, still leads back.
            self.assertEqual(lc_pump(3, 1, 3, 0, [0] + pair + [0, 0, 2, 2, 0, 255], [1]), [1])
        # Some rules deep: 2 says no word, so 1 comes back to 0 by no row of letters.
        self.assertEqual(lc_pump(4, 1, 3, 0, [0, 1, 3, 1, 0, 2, 3, 0, 255], [1]), [0])
        self.assertEqual(lc_pump(4, 1, 3, 0, [0, 1, 3, 1, 0, 2, 3, 0, 255], [2]), [0])
        self.assertEqual(lc_pump(4, 1, 4, 0, [0, 1, 3, 1, 0, 2, 3, 0, 255, 2, 0, 255], [2]), [1])

    def test_a_comes_to_itself_twice(self):
        # Of a a the one stays, and the other says a letter.
        self.assertEqual([lc_pump(1, 1, 2, 0, cases.ALL_OF_ONE_LETTER, [n]) for n in range(25)], [[0]] + [[1]] * 24)
        # Where no a says a word, two of them are never one.
        self.assertEqual([lc_pump(1, 1, 1, 0, [0, 0, 0], [n]) for n in range(25)], [[0]] * 25)
        # An a says three letters, or as many as several such, so beside the one that stays are threes alone.
        rules = [0, 0, 0, 0, 1, 2, 2, 1, 1, 1, 0, 255]
        self.assertEqual([lc_pump(3, 1, 4, 0, rules, [n]) for n in range(25)],
                         [[1] if n > 0 and n % 3 == 0 else [0] for n in range(25)])

    def test_a_row_has_just_one_a(self):
        # 0 comes to 0 1, 1 to 0 2: each round brings two 0, of which one must say its letter, which is letter 1.
        rules = [0, 0, 1, 1, 0, 2, 2, 0, 255, 0, 1, 255]
        self.assertEqual(all_pumps(3, 2, 0, rules, 5), [(n, n) for n in range(1, 5)])

    def test_counts_that_are_all_0(self):
        self.assertEqual(lc_pump(1, 1, 2, 0, cases.ALL_OF_ONE_LETTER, [0]), [0])
        self.assertEqual(lc_pump(1, 1, 1, 0, [0, 0, 255], [0]), [0])
        self.assertEqual(lc_pump(1, 1, 1, 0, [0, 0, 0], [0]), [0])
        self.assertEqual(lc_pump(4, 2, 5, 3, cases.AS_MANY, [0, 0]), [0])
        for a in range(8):
            self.assertEqual(lc_pump(8, 4, 64, a, cases.full_grammar(), [0, 0, 0, 0]), [0])

    def test_a_letter_of_a_itself_is_no_way_back(self):
        self.assertEqual(lc_pump(1, 2, 2, 0, [0, 0, 255, 0, 1, 255], [1, 0]), [0])
        self.assertEqual(lc_pump(1, 2, 2, 0, [0, 0, 255, 0, 1, 255], [1, 1]), [0])

    def test_counts_that_only_some_trees_beside_the_way_have(self):
        # Beside 0 stands 1, which says 0, or 1 1, or 0 0 1 1 1.
        rules = [0, 1, 0, 1, 0, 255, 1, 3, 3, 1, 4, 5, 4, 2, 2, 5, 3, 6, 6, 3, 3, 2, 0, 255, 3, 1, 255]
        self.assertEqual(all_pumps(7, 2, 0, rules[:9] + rules[-3:], 3), [(0, 2), (1, 0), (1, 2), (2, 0), (2, 2)])
        found = all_pumps(7, 2, 0, rules, 6)
        expected = {(x + 2 * z, 2 * y + 3 * z) for x in range(6) for y in range(3) for z in range(2)} - {(0, 0)}
        self.assertEqual(found, sorted(pair for pair in expected if max(pair) < 6))

    def test_any_split_of_the_counts(self):
        # Two trees beside the way, of 1 and of 2: 1 says two letters or five, 2 says one, or 6 7, which is six or nine.
        beside = [1, 4, 4, 1, 4, 5, 5, 6, 6, 6, 4, 4, 4, 0, 255, 2, 0, 255, 2, 6, 7, 7, 1, 6]
        once = {n + m for n in (2, 5) for m in (1, 6, 9)}
        twice = {n + m for n in once for m in once}
        thrice = {n + m for n in once for m in twice}
        expected = [[1] if n in once | twice | thrice else [0] for n in range(12)]
        for way in ([0, 1, 3, 3, 0, 2], [0, 2, 3, 3, 1, 0], [0, 3, 1, 3, 0, 2]):
            self.assertEqual([lc_pump(8, 1, 10, 0, way + beside, [n]) for n in range(12)], expected, way)

    def test_the_split_of_several_letters(self):
        # 1 says letters 0 and 1, 2 says letters 2 and 3: beside the way stand both.
        letters = [4, 0, 255, 5, 1, 255, 6, 2, 255, 7, 3, 255]
        rules = [0, 1, 3, 3, 0, 2, 1, 4, 5, 2, 7, 6] + letters
        self.assertEqual(lc_pump(8, 4, 8, 0, rules, [1, 1, 1, 1]), [1])
        self.assertEqual(lc_pump(8, 4, 8, 0, rules, [6, 6, 6, 6]), [1])
        self.assertEqual(lc_pump(8, 4, 8, 3, rules, [3, 3, 3, 3]), [1])
        for counts in ([1, 1, 0, 0], [0, 0, 1, 1], [2, 1, 1, 1], [2, 2, 1, 1], [1, 2, 2, 1], [0, 1, 1, 1]):
            self.assertEqual(lc_pump(8, 4, 8, 0, rules, counts), [0], counts)

    def test_a_letter_that_is_not_asked_for_helps_nothing(self):
        rules = [0, 1, 3, 3, 0, 2, 1, 0, 255, 2, 1, 255]
        for counts, expected in (([1, 1], 1), ([1, 0], 0), ([0, 1], 0), ([2, 0], 0), ([0, 2], 0), ([2, 1], 0)):
            self.assertEqual(lc_pump(4, 2, 4, 0, rules, counts), [expected], counts)
        for l in (1, 2, 3):
            self.assertEqual(lc_pump(2, 4, 2, 0, [0, 1, 0, 1, l, 255], [1, 0, 0, 0]), [0])
            counts = [0, 0, 0, 0]
            counts[l] = 5
            self.assertEqual(lc_pump(2, 4, 2, 0, [0, 1, 0, 1, l, 255], counts), [1])

    def test_against_all_rows(self):
        answers = []
        for v, l, r, rules, counts in random_cases(12, 700):
            for a in range(v):
                expected = pump_by_rows(a, rules, counts)
                self.assertEqual(lc_pump(v, l, r, a, rules, counts), expected, (v, l, r, a, rules, counts))
                answers.append(expected[0])
        self.assertGreater(sum(answers), 200)
        self.assertLess(sum(answers), len(answers) - 200)

    def test_longer_rows_against_all_rows(self):
        source = random.Random(13)
        answers = []
        for case in range(300):
            rules = [3, 0, 255, 4, 1, 255]
            for rule in range(6):
                rules.extend([source.randrange(3), source.randrange(5), source.randrange(5)])
            counts = [source.randint(0, 5), source.randint(0, 4)]
            a = source.randrange(3)
            expected = pump_by_rows(a, rules, counts, letters_first)
            self.assertEqual(lc_pump(5, 2, 8, a, rules, counts), expected, (a, rules, counts))
            answers.append(expected[0])
        self.assertGreater(sum(answers), 30)
        self.assertLess(sum(answers), 270)


class PumpEdges(unittest.TestCase):
    def test_least_sizes(self):
        self.assertEqual(lc_pump(1, 1, 1, 0, [0, 0, 255], [1]), [0])
        self.assertEqual(lc_pump(1, 1, 1, 0, [0, 0, 0], [1]), [0])
        self.assertEqual(lc_pump(2, 1, 2, 1, [1, 1, 0, 0, 0, 255], [1]), [1])
        self.assertEqual(lc_pump(1, 1, 2, 0, cases.ALL_OF_ONE_LETTER, [1]), [1])

    def test_greatest_sizes(self):
        self.assertEqual(lc_pump(8, 4, 64, 7, cases.full_grammar(), [6, 6, 6, 6]), [1])
        for a in (0, 7):
            rules = [a, a, 3] * 63 + [3, 3, 255]
            self.assertEqual(lc_pump(8, 4, 64, a, rules, [0, 0, 0, 24]), [1])
            self.assertEqual(lc_pump(8, 4, 64, a, rules, [1, 0, 0, 23]), [0])
        # Back by the last of 64 rules alone.
        rules = [3, 3, 255] * 63
        self.assertEqual(lc_pump(8, 4, 64, 7, rules + [7, 3, 7], [0, 0, 0, 5]), [1])
        self.assertEqual(lc_pump(8, 4, 64, 7, rules + [7, 3, 6], [0, 0, 0, 5]), [0])

    def test_the_greatest_a(self):
        # Each of eight variables comes to a letter and the next one, the last to the first.
        for v in (2, 3, 8):
            rules = [number for a in range(1, v) for number in (a, a % (v - 1) + 1, 0)] + [0, 0, 255]
            expected = [[1] if n > 0 and n % (v - 1) == 0 else [0] for n in range(25)]
            self.assertEqual([lc_pump(v, 1, v, v - 1, rules, [n]) for n in range(25)], expected, v)

    def test_24_together(self):
        self.assertEqual(lc_pump(4, 2, 5, 0, cases.AS_MANY, [12, 12]), [1])
        self.assertEqual(lc_pump(4, 2, 5, 0, cases.AS_MANY, [13, 11]), [0])
        self.assertEqual(lc_pump(5, 2, 8, 0, cases.SAME_FROM_BEHIND, [12, 12]), [1])
        self.assertEqual(lc_pump(5, 2, 8, 0, cases.SAME_FROM_BEHIND, [11, 13]), [0])
        self.assertEqual(lc_pump(4, 2, 6, 0, cases.brackets(0, 1), [12, 12]), [1])
        self.assertEqual(lc_pump(1, 4, 2, 0, [0, 0, 0, 0, 3, 255], [0, 0, 0, 24]), [1])
        self.assertEqual(lc_pump(1, 4, 2, 0, [0, 0, 0, 0, 3, 255], [1, 0, 0, 23]), [0])
        # 24 letters in one round: 1 says eight letters, and stands three times beside the way.
        rules = [0, 1, 2, 2, 1, 3, 3, 1, 0, 1, 4, 4, 4, 5, 5, 5, 6, 6, 6, 0, 255]
        self.assertEqual([lc_pump(7, 1, 7, 0, rules, [n]) for n in range(25)], [[0]] * 24 + [[1]])

    def test_rules_that_are_there_twice(self):
        self.assertEqual(lc_pump(1, 1, 4, 0, cases.ALL_OF_ONE_LETTER * 2, [5]), [1])
        self.assertEqual(lc_pump(1, 1, 64, 0, cases.ALL_OF_ONE_LETTER * 32, [24]), [1])
        self.assertEqual(lc_pump(1, 1, 2, 0, [0, 0, 255] * 2, [1]), [0])
        self.assertEqual(lc_pump(1, 1, 64, 0, [0, 0, 0] * 64, [1]), [0])
        self.assertEqual(lc_pump(4, 2, 10, 0, cases.AS_MANY * 2, [3, 3]), [1])
        self.assertEqual(lc_pump(4, 2, 10, 0, cases.AS_MANY * 2, [3, 2]), [0])


class PumpWrong(calls.Wrong, unittest.TestCase):
    FAR_OUTSIDE = (-255, 9, 254, 255, 256, cases.LEAST, cases.MOST)

    @staticmethod
    def call(v, l, r, rules, counts):
        return lc_pump(v, l, r, 0, rules, counts)

    def test_a_out_of_range(self):
        for v in range(1, 9):
            for a in (-1, v, v + 1) + self.FAR_OUTSIDE:
                self.assertEqual(lc_pump(v, 1, 2, a, cases.ALL_OF_ONE_LETTER, [3]), [-2], (v, a))
                self.assertEqual(lc_pump(v, 1, 2, a, cases.ALL_OF_ONE_LETTER, [0]), [-2], (v, a))

    def test_a_just_within(self):
        for v in range(1, 9):
            for a in range(v):
                expected = [1] if a == 0 else [0]
                self.assertEqual(lc_pump(v, 1, 2, a, cases.ALL_OF_ONE_LETTER, [3]), expected, (v, a))

    def test_a_wrong_a_comes_ahead_of_what_is_given(self):
        for v, l, rules, counts in cases.WRONG_GIVEN:
            for a in (-1, v) + self.FAR_OUTSIDE:
                self.assertEqual(lc_pump(v, l, len(rules) // 3, a, rules, counts), [-2], (v, l, a, rules, counts))

    def test_wrong_sizes_with_any_a(self):
        for v, l, r in cases.WRONG_SIZES:
            for a in (0, 7, 8, v - 1, -1, cases.LEAST, cases.MOST):
                self.assertEqual(lc_pump(v, l, r, a, [], []), [-2], (v, l, r, a))

    def test_what_is_given_is_not_so_with_any_a(self):
        for v, l, rules, counts in cases.WRONG_GIVEN:
            for a in range(v):
                self.assertEqual(lc_pump(v, l, len(rules) // 3, a, rules, counts), [-3], (v, l, a, rules, counts))

    def test_the_letter_behind_the_last_is_no_letter(self):
        for l in range(1, 5):
            rules = [0, 1, 0, 1, l, 255]
            self.assertEqual(lc_pump(2, l, 2, 0, rules, [1] * l), [-3])
            self.assertEqual(lc_pump(2, l, 2, 0, rules, [0] * l), [-3])


class PumpInterface(calls.Interface, unittest.TestCase):
    call = staticmethod(PumpWrong.call)

    def test_names(self):
        self.assertEqual(list(inspect.signature(lc_pump).parameters), ["v", "l", "r", "a", "rules", "counts"])

    def test_what_is_handed_in_stays_with_any_a(self):
        for v, l, r, rules, counts in random_cases(14, 50):
            for a in range(-1, v + 1):
                first = lc_pump(v, l, r, a, cases.Unchanging(rules), cases.Unchanging(counts))
                given_rules = list(rules)
                given_counts = list(counts)
                self.assertEqual(lc_pump(v, l, r, a, given_rules, given_counts), first)
                self.assertEqual((given_rules, given_counts), (rules, counts))
                self.assertTrue(cases.is_list_of_numbers(first))


if __name__ == "__main__":
    unittest.main()
