"""count_changes: the count held against the order, the edges, the refusals and their order."""

import itertools
import unittest

from stepdigits.digits import count_changes
from tests import helper


def counts_by_steps(radices):
    """For each number of steps, how often each digit changes, told from the order alone."""
    counts = [0] * len(radices)
    found = [list(counts)]
    for before, after in itertools.pairwise(helper.in_order(radices)):
        for digit in range(len(radices)):
            if before[digit] != after[digit]:
                counts[digit] += 1
        found.append(list(counts))
    return found


def counted(steps, radices):
    """What count_changes tells of each digit; what is not one number fails."""
    found = []
    for digit in range(len(radices)):
        [count] = count_changes(digit, steps, radices)
        found.append(count)
    return found


class Examples(unittest.TestCase):
    def test_last_digit_of_the_example(self):
        # It changes in the steps 1, 2, 4 and 5.
        found = [count_changes(1, steps, [2, 3]) for steps in range(6)]
        self.assertEqual(found, [[0], [1], [2], [2], [3], [4]])

    def test_first_digit_of_the_example(self):
        # It changes in step 3.
        found = [count_changes(0, steps, [2, 3]) for steps in range(6)]
        self.assertEqual(found, [[0], [0], [0], [1], [1], [1]])


class Order(unittest.TestCase):
    def test_each_digit_and_each_number_of_steps_of_many_radices(self):
        for radices in helper.many_radices(3):
            for steps, counts in enumerate(counts_by_steps(radices)):
                self.assertEqual(counted(steps, radices), counts, (steps, radices))

    def test_a_digit_in_the_middle(self):
        # (0,0,0) (0,0,1) (0,1,1) (0,1,0) (0,2,0) (0,2,1) (1,2,1) (1,2,0) (1,1,0) (1,1,1) (1,0,1) (1,0,0)
        found = [count_changes(1, steps, [2, 3, 2]) for steps in range(12)]
        self.assertEqual(found, [[0], [0], [1], [1], [2], [2], [2], [2], [3], [3], [4], [4]])

    def test_digits_are_counted_from_the_first_radix(self):
        self.assertEqual(counted(11, [2, 3, 2]), [1, 4, 6])
        self.assertEqual(counted(23, [4, 2, 3]), [3, 4, 16])
        self.assertEqual(counted(23, [3, 2, 4]), [2, 3, 18])


class Edges(unittest.TestCase):
    def test_0_steps(self):
        for radices in helper.many_radices(4):
            self.assertEqual(counted(0, radices), [0] * len(radices), radices)

    def test_1_step_changes_the_last_digit(self):
        self.assertEqual(counted(1, [2]), [1])
        self.assertEqual(counted(1, [2, 3]), [0, 1])
        self.assertEqual(counted(1, [6, 6, 6, 6, 6]), [0, 0, 0, 0, 1])

    def test_1_step_changes_the_last_digit_whose_radix_is_above_1(self):
        self.assertEqual(counted(1, [2, 1]), [1, 0])
        self.assertEqual(counted(1, [3, 2, 1, 1]), [0, 1, 0, 0])
        self.assertEqual(counted(1, [6, 1, 1, 1, 1]), [1, 0, 0, 0, 0])

    def test_all_steps(self):
        self.assertEqual(counted(5, [2, 3]), [1, 4])
        self.assertEqual(counted(5, [3, 2]), [2, 3])
        self.assertEqual(counted(31, [2, 2, 2, 2, 2]), [1, 2, 4, 8, 16])
        self.assertEqual(counted(719, [2, 3, 4, 5, 6]), [1, 4, 18, 96, 600])
        self.assertEqual(counted(7775, [6, 6, 6, 6, 6]), [5, 30, 180, 1080, 6480])

    def test_one_digit_changes_in_each_step(self):
        for radix in range(1, 7):
            for steps in range(radix):
                self.assertEqual(count_changes(0, steps, [radix]), [steps])

    def test_ahead_of_and_behind_a_change_of_the_first_of_5_digits(self):
        self.assertEqual(count_changes(0, 1295, [6, 6, 6, 6, 6]), [0])
        self.assertEqual(count_changes(0, 1296, [6, 6, 6, 6, 6]), [1])
        self.assertEqual(count_changes(0, 6479, [6, 6, 6, 6, 6]), [4])
        self.assertEqual(count_changes(0, 6480, [6, 6, 6, 6, 6]), [5])

    def test_a_digit_with_a_radix_of_1_never_changes(self):
        for radices in ([1, 3], [3, 1], [2, 1, 2], [1, 2, 1], [3, 1, 5, 1, 3], [1, 6, 1, 6, 1]):
            for steps in range(len(helper.in_order(radices))):
                for digit, radix in enumerate(radices):
                    if radix == 1:
                        self.assertEqual(count_changes(digit, steps, radices), [0], (digit, steps, radices))

    def test_digits_beside_a_radix_of_1(self):
        self.assertEqual([counted(steps, [2, 1, 2]) for steps in range(4)],
                         [[0, 0, 0], [0, 0, 1], [1, 0, 1], [1, 0, 2]])

    def test_radices_all_1(self):
        for length in range(1, 6):
            for digit in range(length):
                self.assertEqual(count_changes(digit, 0, [1] * length), [0])
                self.assertEqual(count_changes(digit, 1, [1] * length), [-22])


class WrongDigits(unittest.TestCase):
    def test_a_digit_that_does_not_exist(self):
        for radices in helper.many_radices(3):
            all_steps = len(helper.in_order(radices)) - 1
            for digit in (len(radices), len(radices) + 1, helper.LARGEST_NUMBER):
                for steps in (0, all_steps):
                    self.assertEqual(count_changes(digit, steps, radices), helper.NO_SUCH_DIGIT,
                                     (digit, steps, radices))

    def test_named_ones(self):
        self.assertEqual(count_changes(2, 3, [2, 3]), [-2])
        self.assertEqual(count_changes(3, 3, [2, 3]), [-2])
        self.assertEqual(count_changes(1, 0, [1]), [-2])
        self.assertEqual(count_changes(5, 0, [6, 6, 6, 6, 6]), [-2])
        self.assertEqual(count_changes(helper.LARGEST_NUMBER, 0, [2, 3]), [-2])


class WrongSteps(unittest.TestCase):
    def test_as_many_as_the_size_and_more(self):
        for radices in helper.many_radices(3):
            size = len(helper.in_order(radices))
            for steps in (size, size + 1, helper.LARGEST_NUMBER):
                for digit in range(len(radices)):
                    self.assertEqual(count_changes(digit, steps, radices), helper.OUTSIDE_LIMITS,
                                     (digit, steps, radices))

    def test_named_ones(self):
        self.assertEqual(count_changes(1, 6, [2, 3]), [-22])
        self.assertEqual(count_changes(0, 7, [2, 3]), [-22])
        self.assertEqual(count_changes(0, 7776, [6, 6, 6, 6, 6]), [-22])
        self.assertEqual(count_changes(0, helper.LARGEST_NUMBER, [2, 3]), [-22])


class WrongRadices(unittest.TestCase):
    def test_refused_whatever_the_digit_and_the_steps_are(self):
        for radices in helper.WRONG_RADICES:
            for digit in (0, 1, 4, 5, 6, 7, helper.LARGEST_NUMBER):
                for steps in (0, 1, 6, 7776, helper.LARGEST_NUMBER):
                    self.assertEqual(count_changes(digit, steps, radices), helper.OUTSIDE_LIMITS,
                                     (digit, steps, radices))


class OrderOfErrors(unittest.TestCase):
    def test_wrong_radices_ahead_of_a_digit_that_does_not_exist(self):
        self.assertEqual(count_changes(0, 0, []), [-22])
        self.assertEqual(count_changes(2, 0, [2, 7]), [-22])
        self.assertEqual(count_changes(1, 0, [0]), [-22])
        self.assertEqual(count_changes(6, 0, [1] * 6), [-22])
        self.assertEqual(count_changes(7, 0, [1] * 7), [-22])
        self.assertEqual(count_changes(2, 0, [2, helper.LARGEST_NUMBER]), [-22])

    def test_a_digit_that_does_not_exist_ahead_of_too_many_steps(self):
        for radices in helper.many_radices(3):
            size = len(helper.in_order(radices))
            for digit in (len(radices), len(radices) + 1, helper.LARGEST_NUMBER):
                for steps in (size, size + 1, helper.LARGEST_NUMBER):
                    self.assertEqual(count_changes(digit, steps, radices), helper.NO_SUCH_DIGIT,
                                     (digit, steps, radices))


class NothingKeptOrChanged(helper.NothingKeptOrChanged, unittest.TestCase):
    function = staticmethod(count_changes)
    calls = (
        (1, 2, [2, 3]),
        (0, 3, [2, 3]),
        (1, 5, [2, 3]),
        (2, 7775, [6] * 5),
        (4, 7775, [6] * 5),
        (1, 30, [3, 1, 5, 1, 3]),
        (0, 0, [1]),
        (0, 1, [1]),
        (2, 3, [2, 3]),
        (0, 6, [2, 3]),
        (2, 6, [2, 3]),
        (0, 0, []),
        (0, 0, [0]),
        (2, 3, [2, 7]),
        (0, 0, [1] * 7),
    )
