import contextlib
import inspect
import io
import random
import unittest

from lettercounts.grammar import lc_steps
from tests import cases
from tests.oracle import random_steps, steps_by_search

# (l, c) of which one number or both are out of their ranges.
WRONG_SIZES = [
    (0, 0), (5, 0), (-1, 0), (0, 8), (5, 8), (-1, 8), (255, 1), (-255, 1), (cases.LEAST, 1), (cases.MOST, 1),
    (1, -1), (1, 9), (4, -1), (4, 9), (2, 255), (2, -255), (1, cases.LEAST), (1, cases.MOST),
    (4, cases.LEAST), (4, cases.MOST), (0, -1), (5, 9), (0, 9), (5, -1),
    (cases.LEAST, cases.LEAST), (cases.MOST, cases.MOST), (cases.LEAST, cases.MOST), (cases.MOST, cases.LEAST),
]

# (l, base, steps, counts) with sizes in their ranges, but the base, a step or the counts wrong.
WRONG_GIVEN = [
    (1, [0], [], [25]),
    (1, [25], [], [24]),
    (1, [25], [], [25]),
    (1, [255], [], [0]),
    (1, [0], [], [255]),
    (1, [0], [25], [0]),
    (1, [0], [25], [24]),
    (1, [0], [1, 25], [3]),
    (1, [0], [25, 1], [3]),
    (1, [0], [255], [0]),
    (2, [24, 1], [1, 0], [24, 0]),
    (2, [0, 0], [1, 0], [24, 1]),
    (2, [0, 0], [1, 24], [0, 0]),
    (4, [7, 6, 6, 6], [], [6, 6, 6, 6]),
    (4, [0, 0, 0, 0], [], [6, 6, 6, 7]),
    (4, [0, 0, 0, 0], [6, 7, 6, 6], [0, 0, 0, 0]),
    (4, [255, 255, 255, 255], [255] * 32, [255, 255, 255, 255]),
    (1, [0], [0], [0]),
    (1, [0], [0], [1]),
    (1, [3], [0], [2]),
    (1, [0], [1, 0], [1]),
    (1, [0], [0, 1], [1]),
    (1, [0], [0, 2], [1]),
    (2, [1, 1], [0, 0], [1, 1]),
    (2, [1, 1], [1, 0, 0, 0], [1, 2]),
    (2, [1, 1], [1, 0, 0, 0, 0, 1], [1, 2]),
    (4, [0, 0, 0, 0], [0, 0, 0, 0], [0, 0, 0, 0]),
    (4, [0, 0, 0, 0], [0, 0, 0, 1] * 7 + [0, 0, 0, 0], [0, 0, 0, 7]),
]


def number_of_steps(l, steps):
    return len(steps) // l


class StepsOrdinary(unittest.TestCase):
    def check(self, base, rows, counts, expected):
        """Each step a list of its own."""
        steps = [number for row in rows for number in row]
        self.assertEqual(lc_steps(len(base), len(rows), base, steps, counts), expected, (base, rows, counts))

    def test_counts_that_are_the_base(self):
        self.check([3], [[1]], [3], [0, 0])
        self.check([0], [[5], [1]], [0], [0, 0, 0])
        self.check([2, 0, 1], [[1, 0, 0], [0, 1, 0], [0, 0, 1]], [2, 0, 1], [0, 0, 0, 0])

    def test_one_step_several_times(self):
        for k in range(13):
            self.check([0], [[2]], [2 * k], [0, k])
            self.check([0, 0], [[1, 1]], [k, k], [0, k])
        self.check([1, 2], [[2, 1]], [7, 5], [0, 3])

    def test_counts_to_which_no_times_come(self):
        self.check([0], [[2]], [3], [-5])
        self.check([0], [[4], [6]], [2], [-5])
        self.check([0], [[4], [6]], [11], [-5])
        self.check([0, 0], [[1, 1]], [2, 3], [-5])
        self.check([0, 0], [[1, 2], [2, 1]], [1, 1], [-5])
        self.check([1, 0], [[1, 2], [2, 1]], [3, 3], [-5])
        self.check([0, 0], [[1, 0]], [0, 1], [-5])
        # A greatest step above what is asked for, and none that is small enough.
        self.check([0], [[5], [6], [7]], [4], [-5])

    def test_counts_below_the_base(self):
        self.check([1], [[1]], [0], [-5])
        self.check([24], [[1]], [23], [-5])
        self.check([1, 0], [[0, 1]], [0, 3], [-5])
        self.check([0, 1], [[1, 0]], [3, 0], [-5])
        self.check([0, 0, 3, 0], [[1, 1, 1, 1]], [2, 2, 2, 2], [-5])
        # Below in one letter by as many as above in another.
        self.check([2, 2], [[1, 1], [1, 0], [0, 1]], [1, 3], [-5])
        self.check([2, 2], [[1, 1], [1, 0], [0, 1]], [3, 1], [-5])

    def test_the_lesser_number_of_the_first_step(self):
        self.check([0], [[1], [2]], [6], [0, 0, 3])
        self.check([0], [[2], [1]], [6], [0, 0, 6])
        self.check([0], [[1], [2]], [7], [0, 1, 3])
        self.check([0], [[3], [2]], [6], [0, 0, 3])
        self.check([0], [[3], [2]], [7], [0, 1, 2])
        self.check([0], [[3], [4]], [18], [0, 2, 3])
        self.check([0], [[7], [5]], [24], [0, 2, 2])

    def test_the_first_step_more_often_would_be_there_sooner(self):
        self.check([0], [[24], [1]], [24], [0, 0, 24])
        self.check([0], [[12], [8], [1]], [24], [0, 0, 0, 24])
        self.check([0], [[12], [8], [3]], [24], [0, 0, 0, 8])
        self.check([0, 0], [[6, 6], [1, 0], [0, 1]], [12, 12], [0, 0, 12, 12])

    def test_then_the_lesser_number_of_the_second_and_so_on(self):
        self.check([0], [[6], [1], [2]], [6], [0, 0, 0, 3])
        self.check([0], [[6], [1], [4]], [6], [0, 0, 2, 1])
        self.check([0], [[5], [4], [3]], [12], [0, 0, 0, 4])
        self.check([0], [[5], [4], [3]], [11], [0, 0, 2, 1])
        self.check([0], [[5], [4], [3]], [10], [0, 0, 1, 2])
        self.check([0], [[5], [3], [4]], [10], [0, 0, 2, 1])
        self.check([0], [[5], [3], [4]], [5], [0, 1, 0, 0])
        self.check([0], [[4], [6], [5], [1]], [4], [0, 0, 0, 0, 4])
        self.check([0], [[4], [6], [5], [10]], [20], [0, 0, 0, 0, 2])
        self.check([0], [[4], [6], [5], [10]], [21], [0, 0, 1, 1, 1])
        self.check([0], [[4], [6], [5], [10]], [19], [0, 1, 0, 1, 1])

    def test_the_first_step_must_be_taken(self):
        # Of letter 0 only the first step brings an odd number.
        self.check([0, 0], [[1, 2], [2, 0], [0, 1]], [3, 4], [0, 1, 1, 2])
        # By no less than three of the first step.
        self.check([0, 0], [[1, 3], [5, 0], [0, 4]], [8, 9], [0, 3, 1, 0])
        self.check([0, 0], [[1, 3], [5, 0], [0, 4]], [8, 13], [0, 3, 1, 1])
        self.check([0, 0], [[1, 3], [5, 0], [0, 4]], [7, 9], [-5])

    def test_steps_that_are_the_same(self):
        self.check([0], [[1], [1]], [5], [0, 0, 5])
        self.check([2], [[3], [3], [3]], [11], [0, 0, 0, 3])
        self.check([0], [[2], [3], [2]], [4], [0, 0, 0, 2])
        self.check([0], [[2], [3], [2], [3]], [8], [0, 0, 0, 1, 2])
        self.check([0, 0], [[1, 1], [1, 0], [1, 1]], [4, 2], [0, 0, 2, 2])

    def test_steps_in_which_some_letters_are_0(self):
        self.check([0, 0, 0], [[1, 0, 0], [0, 1, 0], [0, 0, 1]], [3, 1, 2], [0, 3, 1, 2])
        self.check([0, 0, 0], [[0, 0, 2], [0, 1, 0], [1, 0, 0]], [3, 1, 2], [0, 1, 1, 3])
        self.check([0, 0, 0], [[1, 0, 1], [0, 1, 1]], [2, 3, 5], [0, 2, 3])
        self.check([0, 0, 0], [[1, 0, 1], [0, 1, 1]], [2, 3, 4], [-5])
        self.check([0, 1, 0], [[1, 0, 1], [0, 1, 1]], [2, 3, 4], [0, 2, 2])
        # A step with a letter that is not asked for is never taken.
        self.check([0, 0], [[1, 1], [1, 0]], [4, 0], [0, 0, 4])
        self.check([0, 0], [[1, 1]], [4, 0], [-5])

    def test_several_letters(self):
        self.check([1, 2, 3, 4], [[1, 0, 0, 1], [0, 1, 1, 0], [1, 1, 1, 1]], [3, 4, 5, 6], [0, 0, 0, 2])
        self.check([1, 2, 3, 4], [[1, 1, 1, 1], [1, 0, 0, 1], [0, 1, 1, 0]], [3, 4, 5, 6], [0, 0, 2, 2])
        self.check([1, 2, 3, 4], [[1, 0, 0, 1], [0, 1, 1, 0]], [3, 4, 6, 6], [-5])

    def test_the_letters_are_told_apart(self):
        self.check([0, 0], [[1, 2]], [1, 2], [0, 1])
        self.check([0, 0], [[1, 2]], [2, 1], [-5])
        self.check([0, 0, 0], [[2, 0, 0], [0, 2, 0]], [0, 0, 2], [-5])
        self.check([1, 0], [[0, 1]], [1, 1], [0, 1])
        self.check([0, 1], [[0, 1]], [1, 1], [-5])
        # Two steps of two letters, side by side: not the first numbers of each, then the second ones.
        self.check([0, 0], [[1, 2], [3, 4]], [4, 6], [0, 1, 1])
        self.check([0, 0], [[1, 3], [2, 4]], [4, 6], [-5])

    def test_against_all_times(self):
        found = 0
        later = 0
        number = 0
        for l, c, base, steps, counts in random_steps(15, 3000):
            expected = steps_by_search(l, base, steps, counts)
            self.assertEqual(lc_steps(l, c, base, steps, counts), expected, (l, c, base, steps, counts))
            number += 1
            found += expected != [-5]
            later += sum(times > 0 for times in expected[1:]) > 1
        self.assertGreater(found, 500)
        self.assertLess(found, number - 500)
        self.assertGreater(later, 150)

    def test_greater_steps_against_all_times(self):
        source = random.Random(16)
        found = 0
        for case in range(1500):
            rows = [source.randint(2, 9) for step in range(source.randint(2, 4))]
            base = source.randint(0, 4)
            counts = source.randint(4, 24)
            expected = steps_by_search(1, [base], rows, [counts])
            self.assertEqual(lc_steps(1, len(rows), [base], rows, [counts]), expected, (base, rows, counts))
            found += expected != [-5]
        self.assertGreater(found, 500)
        self.assertLess(found, 1400)


class StepsEdges(unittest.TestCase):
    def test_no_steps(self):
        for l in range(1, 5):
            base = [1, 0, 2, 3][:l]
            self.assertEqual(lc_steps(l, 0, base, [], list(base)), [0])
            for letter in range(l):
                for change in (1, -1):
                    counts = list(base)
                    counts[letter] += change
                    if counts[letter] >= 0:
                        self.assertEqual(lc_steps(l, 0, base, [], counts), [-5], counts)
        self.assertEqual(lc_steps(1, 0, [0], [], [0]), [0])
        self.assertEqual(lc_steps(1, 0, [24], [], [24]), [0])
        self.assertEqual(lc_steps(1, 0, [24], [], [23]), [-5])
        self.assertEqual(lc_steps(4, 0, [6, 6, 6, 6], [], [6, 6, 6, 6]), [0])
        self.assertEqual(lc_steps(4, 0, [0, 0, 0, 0], [], [6, 6, 6, 6]), [-5])

    def test_eight_steps(self):
        self.assertEqual(lc_steps(1, 8, [0], [1, 2, 3, 4, 5, 6, 7, 8], [24]), [0, 0, 0, 0, 0, 0, 0, 0, 3])
        self.assertEqual(lc_steps(1, 8, [0], [8, 7, 6, 5, 4, 3, 2, 1], [24]), [0, 0, 0, 0, 0, 0, 0, 0, 24])
        self.assertEqual(lc_steps(1, 8, [1], [1] * 8, [24]), [0, 0, 0, 0, 0, 0, 0, 0, 23])
        self.assertEqual(lc_steps(1, 8, [0], [2] * 8, [23]), [-5])
        # Only the first of eight steps is odd.
        self.assertEqual(lc_steps(1, 8, [0], [3, 2, 4, 6, 8, 10, 12, 14], [23]), [0, 1, 0, 0, 0, 0, 2, 0, 0])
        singles = [1, 0, 0, 0, 0, 1, 0, 0, 0, 0, 1, 0, 0, 0, 0, 1]
        self.assertEqual(lc_steps(4, 8, [0] * 4, singles * 2, [6, 6, 6, 6]), [0, 0, 0, 0, 0, 6, 6, 6, 6])
        self.assertEqual(lc_steps(4, 8, [1] * 4, singles + [2, 0, 0, 0, 0, 2, 0, 0, 0, 0, 2, 0, 0, 0, 0, 2], [6] * 4),
                         [0, 1, 1, 1, 1, 2, 2, 2, 2])

    def test_each_number_of_steps(self):
        for c in range(1, 9):
            self.assertEqual(lc_steps(1, c, [0], [24] * (c - 1) + [1], [24]), [0] + [0] * (c - 1) + [24])
            self.assertEqual(lc_steps(2, c, [0, 0], [0, 1] * c, [0, 5]), [0] + [0] * (c - 1) + [5])
            self.assertEqual(lc_steps(2, c, [0, 0], [0, 1] * c, [1, 5]), [-5])

    def test_24_together(self):
        self.assertEqual(lc_steps(1, 1, [0], [24], [24]), [0, 1])
        self.assertEqual(lc_steps(1, 1, [24], [24], [24]), [0, 0])
        self.assertEqual(lc_steps(1, 1, [1], [24], [24]), [-5])
        self.assertEqual(lc_steps(1, 1, [0], [1], [24]), [0, 24])
        self.assertEqual(lc_steps(4, 1, [0] * 4, [6, 6, 6, 6], [6, 6, 6, 6]), [0, 1])
        self.assertEqual(lc_steps(4, 1, [6] * 4, [6, 6, 6, 6], [6, 6, 6, 6]), [0, 0])
        self.assertEqual(lc_steps(4, 2, [0] * 4, [6, 6, 6, 6, 1, 1, 1, 1], [6, 6, 6, 6]), [0, 0, 6])
        self.assertEqual(lc_steps(4, 1, [0] * 4, [0, 0, 0, 24], [0, 0, 0, 24]), [0, 1])
        self.assertEqual(lc_steps(4, 1, [24, 0, 0, 0], [0, 24, 0, 0], [0, 24, 0, 0]), [-5])
        self.assertEqual(lc_steps(2, 2, [12, 12], [24, 0, 0, 24], [12, 12]), [0, 0, 0])

    def test_steps_of_one_letter_alone_once(self):
        for l in range(1, 5):
            steps = [int(x == letter) for letter in range(l) for x in range(l)]
            counts = [3, 0, 7, 5][:l]
            self.assertEqual(lc_steps(l, l, [0] * l, steps, counts), [0] + counts)
            self.assertEqual(lc_steps(l, l, list(counts), steps, counts), [0] * (l + 1))
            for letter in range(l):
                alone = steps[letter * l:letter * l + l]
                counts = [6 * number for number in alone]
                self.assertEqual(lc_steps(l, 1, [0] * l, alone, counts), [0, 6])


class StepsWrong(unittest.TestCase):
    def test_sizes_out_of_range(self):
        for l, c in WRONG_SIZES:
            self.assertEqual(lc_steps(l, c, [], [], []), [-2], (l, c))

    def test_sizes_just_within(self):
        for l in range(1, 5):
            for c in range(9):
                self.assertEqual(lc_steps(l, c, [0] * l, [1] * (c * l), [0] * l), [0] + [0] * c, (l, c))

    def test_what_is_given_is_not_so(self):
        for l, base, steps, counts in WRONG_GIVEN:
            c = number_of_steps(l, steps)
            self.assertEqual(lc_steps(l, c, base, steps, counts), [-3], (l, base, steps, counts))

    def test_a_wrong_step_in_any_place(self):
        for c in range(1, 9):
            for k in range(c):
                for wrong in ([0, 0], [25, 0], [24, 1], [0, 255]):
                    steps = [1, 1] * c
                    steps[2 * k:2 * k + 2] = wrong
                    # The counts are the base, they come by the steps, and they do not come at all.
                    for counts in ([1, 2], [3, 4], [1, 5], [0, 0]):
                        self.assertEqual(lc_steps(2, c, [1, 2], steps, counts), [-3], (c, k, wrong, counts))

    def test_25_together_of_any_letter(self):
        for l in range(1, 5):
            for letter in range(l):
                much = [0] * l
                much[letter] = 25
                none = [0] * l
                step = [1] * l
                self.assertEqual(lc_steps(l, 1, much, step, none), [-3])
                self.assertEqual(lc_steps(l, 1, none, much, none), [-3])
                self.assertEqual(lc_steps(l, 1, none, step, much), [-3])
                self.assertEqual(lc_steps(l, 0, much, [], much), [-3])


class StepsInterface(unittest.TestCase):
    def test_names(self):
        self.assertEqual(list(inspect.signature(lc_steps).parameters), ["l", "c", "base", "steps", "counts"])

    def test_a_list_of_whole_numbers_is_given_back(self):
        for arguments in [(1, 0, [0], [], [0]), (1, 0, [0], [], [1]), (1, 2, [0], [1, 2], [5]), (0, 0, [], [], []),
                          (1, 1, [0], [0], [0]), (2, 1, [0, 0], [1, 1], [2, 2])]:
            self.assertTrue(cases.is_list_of_numbers(lc_steps(*arguments)), arguments)

    def test_what_is_handed_in_stays(self):
        wrong = [(l, number_of_steps(l, steps), base, steps, counts) for l, base, steps, counts in WRONG_GIVEN]
        for l, c, base, steps, counts in list(random_steps(17, 300)) + wrong:
            first = lc_steps(l, c, cases.Unchanging(base), cases.Unchanging(steps), cases.Unchanging(counts))
            given = [list(base), list(steps), list(counts)]
            self.assertEqual(lc_steps(l, c, given[0], given[1], given[2]), first)
            self.assertEqual(given, [base, steps, counts])

    def test_one_list_for_base_and_counts(self):
        numbers = [2, 3]
        self.assertEqual(lc_steps(2, 1, numbers, numbers, numbers), [0, 0])
        self.assertEqual(numbers, [2, 3])

    def test_nothing_is_kept(self):
        inputs = list(random_steps(18, 200)) + [(0, 0, [], [], []), (1, 1, [0], [0], [0])]
        forward = [lc_steps(*arguments) for arguments in inputs]
        backward = [lc_steps(*arguments) for arguments in reversed(inputs)]
        self.assertEqual(forward, backward[::-1])
        answer = lc_steps(1, 1, [0], [1], [3])
        answer.append(7)
        self.assertEqual(lc_steps(1, 1, [0], [1], [3]), [0, 3])

    def test_nothing_is_printed(self):
        printed = io.StringIO()
        with contextlib.redirect_stdout(printed), contextlib.redirect_stderr(printed):
            lc_steps(1, 1, [0], [1], [3])
            lc_steps(0, 1, [], [], [])
        self.assertEqual(printed.getvalue(), "")


if __name__ == "__main__":
    unittest.main()
