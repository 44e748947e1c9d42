"""What is asked alike of each call of the form (v, l, r, rules, counts)."""

import contextlib
import inspect
import io

from tests import cases
from tests.oracle import random_cases


class Wrong:
    """Wrong inputs; call is the function that is tested."""

    def test_sizes_out_of_range(self):
        for v, l, r in cases.WRONG_SIZES:
            self.assertEqual(self.call(v, l, r, [], []), [-2], (v, l, r))

    def test_rules_and_counts_that_are_not_so(self):
        for v, l, rules, counts in cases.WRONG_GIVEN:
            self.assertEqual(self.call(v, l, len(rules) // 3, rules, counts), [-3], (v, l, rules, counts))

    def test_a_wrong_rule_in_any_place(self):
        for k in range(64):
            rules = [0, 0, 255] * 64
            rules[3 * k] = 1
            self.assertEqual(self.call(1, 1, 64, rules, [1]), [-3], k)

    def test_refused_also_where_no_tree_has_the_counts(self):
        self.assertEqual(self.call(1, 1, 1, [0, 0, 0], [25]), [-3])
        self.assertEqual(self.call(1, 1, 1, [0, 0, 255], [25]), [-3])
        self.assertEqual(self.call(2, 1, 2, [1, 0, 255, 0, 1, 2], [5]), [-3])
        self.assertEqual(self.call(1, 1, 2, [0, 0, 0, 0, 1, 255], [0]), [-3])


class Interface:
    """The last paragraphs of the interface; call is the function that is tested."""

    def test_names(self):
        self.assertEqual(list(inspect.signature(self.call).parameters), ["v", "l", "r", "rules", "counts"])

    def test_a_list_of_whole_numbers_is_given_back(self):
        for arguments in [(1, 1, 1, [0, 0, 255], [1]), (1, 1, 1, [0, 0, 255], [2]),
                          (1, 1, 2, cases.ALL_OF_ONE_LETTER, [3]),
                          (0, 1, 1, [], []), (1, 1, 1, [0, 0, 255], [25])]:
            self.assertTrue(cases.is_list_of_numbers(self.call(*arguments)), arguments)

    def test_what_is_handed_in_stays(self):
        for v, l, r, rules, counts in random_cases(2, 100):
            first = self.call(v, l, r, cases.Unchanging(rules), cases.Unchanging(counts))
            given_rules = list(rules)
            given_counts = list(counts)
            self.assertEqual(self.call(v, l, r, given_rules, given_counts), first)
            self.assertEqual((given_rules, given_counts), (rules, counts))
        rules = [1, 0, 255]
        counts = [25]
        self.assertEqual(self.call(1, 1, 1, rules, counts), [-3])
        self.assertEqual((rules, counts), ([1, 0, 255], [25]))

    def test_nothing_is_kept(self):
        inputs = list(random_cases(3, 100)) + [(0, 1, 1, [], []), (1, 1, 1, [0, 0, 255], [25])]
        forward = [self.call(*arguments) for arguments in inputs]
        backward = [self.call(*arguments) for arguments in reversed(inputs)]
        self.assertEqual(forward, backward[::-1])
        answer = self.call(1, 1, 1, [0, 0, 255], [1])
        before = list(answer)
        answer.append(7)
        self.assertEqual(self.call(1, 1, 1, [0, 0, 255], [1]), before)

    def test_nothing_is_printed(self):
        printed = io.StringIO()
        with contextlib.redirect_stdout(printed), contextlib.redirect_stderr(printed):
            self.call(1, 1, 2, cases.ALL_OF_ONE_LETTER, [5])
            self.call(0, 1, 1, [], [])
        self.assertEqual(printed.getvalue(), "")
