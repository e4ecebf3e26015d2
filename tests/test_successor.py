"""successor: the element behind each one, the digit that changes, the edges, the refusals."""

import itertools
import unittest

from stepdigits.digits import index_of, successor
from tests import helper


def wanted_step(element, following):
    """What successor is to answer, told from the two elements alone."""
    changed = [i for i in range(len(element)) if element[i] != following[i]]
    if len(changed) != 1:
        raise AssertionError((element, following))
    digit = changed[0]
    return [digit, 1 if following[digit] > element[digit] else 0] + following


class Examples(unittest.TestCase):
    def test_step_of_the_example(self):
        self.assertEqual(successor([2, 3], [0, 2]), [0, 1, 1, 2])

    def test_all_steps_of_the_example(self):
        self.assertEqual(successor([2, 3], [0, 0]), [1, 1, 0, 1])
        self.assertEqual(successor([2, 3], [0, 1]), [1, 1, 0, 2])
        self.assertEqual(successor([2, 3], [1, 2]), [1, 0, 1, 1])
        self.assertEqual(successor([2, 3], [1, 1]), [1, 0, 1, 0])
        self.assertEqual(successor([2, 3], [1, 0]), [-33])


class Order(unittest.TestCase):
    def test_all_steps_of_many_radices(self):
        for radices in helper.many_radices(4):
            for element, following in itertools.pairwise(helper.in_order(radices)):
                self.assertEqual(successor(radices, element), wanted_step(element, following), (radices, element))

    def test_the_first_the_middle_and_the_last_digit_change(self):
        self.assertEqual(successor([2, 3, 2], [0, 2, 1]), [0, 1, 1, 2, 1])
        self.assertEqual(successor([2, 3, 2], [0, 0, 1]), [1, 1, 0, 1, 1])
        self.assertEqual(successor([2, 3, 2], [0, 0, 0]), [2, 1, 0, 0, 1])

    def test_a_digit_falls_in_a_reversed_inner_group(self):
        self.assertEqual(successor([2, 3, 2], [0, 1, 1]), [2, 0, 0, 1, 0])
        self.assertEqual(successor([2, 3, 2], [1, 2, 1]), [2, 0, 1, 2, 0])
        self.assertEqual(successor([2, 3, 2], [1, 2, 0]), [1, 0, 1, 1, 0])

    def test_a_digit_grows_in_a_group_reversed_twice(self):
        self.assertEqual(successor([2, 3, 2], [1, 1, 0]), [2, 1, 1, 1, 1])
        self.assertEqual(successor([4, 4, 4], [3, 1, 1]), [2, 1, 3, 1, 2])


class Requirements(unittest.TestCase):
    def test_from_the_first_element_each_one_is_come_to(self):
        for radices in helper.many_radices(3):
            listed = helper.in_order(radices)
            found = [[0] * len(radices)]
            for _ in range(len(listed) - 1):
                found.append(successor(radices, found[-1])[2:])
            self.assertEqual(found, listed, radices)
            self.assertEqual(successor(radices, found[-1]), helper.NO_SUCH_ELEMENT, radices)

    def test_consecutive_ones_have_the_distance_1(self):
        for radices in helper.many_radices(3):
            for element in helper.in_order(radices)[:-1]:
                following = successor(radices, element)[2:]
                self.assertEqual(helper.digits_apart(element, following), 1, (radices, element))

    def test_the_index_grows_by_1(self):
        for radices in helper.many_radices(3):
            for index, element in enumerate(helper.in_order(radices)[:-1]):
                following = successor(radices, element)[2:]
                self.assertEqual(index_of(radices, following), [index + 1], (radices, element))

    def test_how_many_times_the_first_digit_changes(self):
        for radices in helper.many_radices(3):
            changed = [successor(radices, element)[0] for element in helper.in_order(radices)[:-1]]
            self.assertEqual(changed.count(0), radices[0] - 1, radices)


class Edges(unittest.TestCase):
    def test_first_element(self):
        self.assertEqual(successor([2], [0]), [0, 1, 1])
        self.assertEqual(successor([6, 6, 6, 6, 6], [0, 0, 0, 0, 0]), [4, 1, 0, 0, 0, 0, 1])
        self.assertEqual(successor([3, 1, 2, 1, 1], [0, 0, 0, 0, 0]), [2, 1, 0, 0, 1, 0, 0])

    def test_element_ahead_of_the_last(self):
        self.assertEqual(successor([6], [4]), [0, 1, 5])
        self.assertEqual(successor([3, 2], [2, 0]), [1, 1, 2, 1])
        self.assertEqual(successor([6, 6, 6, 6, 6], [5, 0, 0, 0, 1]), [4, 0, 5, 0, 0, 0, 0])
        self.assertEqual(successor([5, 5, 5, 5, 5], [4, 4, 4, 4, 3]), [4, 1, 4, 4, 4, 4, 4])

    def test_last_element(self):
        for radices in helper.many_radices(4):
            last = helper.in_order(radices)[-1]
            self.assertEqual(successor(radices, last), helper.NO_SUCH_ELEMENT, (radices, last))

    def test_last_element_of_5_digits(self):
        self.assertEqual(successor([6, 6, 6, 6, 6], [5, 0, 0, 0, 0]), [-33])
        self.assertEqual(successor([5, 5, 5, 5, 5], [4, 4, 4, 4, 4]), [-33])

    def test_one_digit_counts_up(self):
        for digit in range(5):
            self.assertEqual(successor([6], [digit]), [0, 1, digit + 1])
        self.assertEqual(successor([6], [5]), [-33])

    def test_first_digit_of_5_changes(self):
        self.assertEqual(successor([6, 6, 6, 6, 6], [2, 5, 0, 0, 0]), [0, 1, 3, 5, 0, 0, 0])
        self.assertEqual(successor([6, 6, 6, 6, 6], [3, 0, 0, 0, 0]), [0, 1, 4, 0, 0, 0, 0])

    def test_radices_of_1(self):
        self.assertEqual(successor([2, 1, 2], [0, 0, 0]), [2, 1, 0, 0, 1])
        self.assertEqual(successor([2, 1, 2], [0, 0, 1]), [0, 1, 1, 0, 1])
        self.assertEqual(successor([2, 1, 2], [1, 0, 1]), [2, 0, 1, 0, 0])
        self.assertEqual(successor([2, 1, 2], [1, 0, 0]), [-33])
        self.assertEqual(successor([1, 2, 1], [0, 0, 0]), [1, 1, 0, 1, 0])

    def test_the_only_element_is_the_last_one(self):
        for length in range(1, 6):
            self.assertEqual(successor([1] * length, [0] * length), [-33])


class WrongElements(unittest.TestCase):
    def test_too_few_or_too_many_digits(self):
        for radices in helper.many_radices(3):
            for element in helper.wrong_lengths(radices):
                self.assertEqual(successor(radices, element), helper.OUTSIDE_LIMITS, (radices, element))

    def test_a_digit_not_less_than_its_radix(self):
        for radices in helper.many_radices(3):
            for element in helper.wrong_digits(radices):
                self.assertEqual(successor(radices, element), helper.OUTSIDE_LIMITS, (radices, element))

    def test_each_digit_is_held_against_its_own_radix(self):
        self.assertEqual(successor([2, 3], [2, 1]), [-22])
        self.assertEqual(successor([3, 2], [1, 2]), [-22])

    def test_named_ones(self):
        self.assertEqual(successor([2, 3], []), [-22])
        self.assertEqual(successor([2, 3], [0]), [-22])
        self.assertEqual(successor([2, 3], [0, 0, 0]), [-22])
        self.assertEqual(successor([2, 3], [0, 3]), [-22])
        self.assertEqual(successor([2, 3], [helper.LARGEST_NUMBER, 0]), [-22])


class WrongRadices(unittest.TestCase):
    def test_refused_whatever_the_element_is(self):
        for radices in helper.WRONG_RADICES:
            for element in helper.elements_for_wrong_radices(radices):
                self.assertEqual(successor(radices, element), helper.OUTSIDE_LIMITS, (radices, element))


class OrderOfErrors(unittest.TestCase):
    def test_wrong_radices_ahead_of_the_last_element(self):
        self.assertEqual(successor([7], [6]), [-22])
        self.assertEqual(successor([2, 7], [1, 0]), [-22])
        self.assertEqual(successor([1] * 6, [0] * 6), [-22])
        self.assertEqual(successor([], []), [-22])
        self.assertEqual(successor([0], [0]), [-22])

    def test_wrong_radices_ahead_of_a_wrong_element(self):
        self.assertEqual(successor([], [0]), [-22])
        self.assertEqual(successor([2, 0], [1]), [-22])

    def test_a_wrong_element_ahead_of_the_last_one(self):
        # Each has the digits of the last element, with one too many, too few or too large.
        self.assertEqual(successor([2, 3], [1, 0, 0]), [-22])
        self.assertEqual(successor([2, 3], [1]), [-22])
        self.assertEqual(successor([2, 3], [2, 0]), [-22])
        self.assertEqual(successor([3, 3], [2, 3]), [-22])
        self.assertEqual(successor([1], [0, 0]), [-22])


class NothingKeptOrChanged(helper.NothingKeptOrChanged, unittest.TestCase):
    function = staticmethod(successor)
    calls = (
        ([2, 3], [0, 2]),
        ([2, 3], [1, 2]),
        ([2, 3], [1, 0]),
        ([6] * 5, [5, 4, 3, 2, 1]),
        ([6] * 5, [5, 0, 0, 0, 0]),
        ([6], [0]),
        ([1], [0]),
        ([2, 3], [1, 3]),
        ([2, 3], [1]),
        ([2, 3], []),
        ([], []),
        ([2, 7], [1, 6]),
    )
