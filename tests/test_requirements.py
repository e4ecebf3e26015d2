"""The document's Requirements and Examples, by all functions of the program together."""

import unittest

from stepdigits.digits import count_changes, distance, element_at, index_of, last_element, successor
from tests import helper


def listed_by_index(radices):
    """All elements, as last_element tells how many there are and element_at which."""
    size = last_element(radices)[0]
    return [element_at(index, radices)[1:] for index in range(size)]


class GrayCode(unittest.TestCase):
    def test_consecutive_ones_by_element_at_have_the_distance_1(self):
        for radices in helper.many_radices(3):
            listed = listed_by_index(radices)
            for before, after in zip(listed, listed[1:]):
                self.assertEqual(distance(radices, before, after), [1, 1], (radices, before, after))

    def test_consecutive_ones_by_successor_have_the_distance_1(self):
        for radices in helper.many_radices(3):
            size, *last = last_element(radices)
            element = [0] * len(radices)
            for _ in range(size - 1):
                following = successor(radices, element)[2:]
                self.assertEqual(distance(radices, element, following), [1, 1], (radices, element))
                element = following
            self.assertEqual(element, last, radices)
            self.assertEqual(successor(radices, element), helper.NO_SUCH_ELEMENT, radices)


class Ranking(unittest.TestCase):
    def test_from_index_to_element_and_back(self):
        for radices in helper.many_radices(3):
            for index, element in enumerate(listed_by_index(radices)):
                self.assertEqual(index_of(radices, element), [index], (radices, element))

    def test_from_element_to_index_and_back(self):
        for radices in helper.many_radices(3):
            for element in helper.in_order(radices):
                index = index_of(radices, element)[0]
                self.assertEqual(element_at(index, radices), [len(radices)] + element, (radices, element))


class Distance(unittest.TestCase):
    def assert_at_most_the_difference_of_the_indices(self, radices, first, second):
        apart, index_difference = distance(radices, first, second)
        self.assertLessEqual(apart, index_difference, (radices, first, second))
        indices = index_of(radices, first) + index_of(radices, second)
        self.assertEqual(index_difference, max(indices) - min(indices), (radices, first, second))

    def test_each_pair(self):
        for radices in helper.all_radices(2) + [[2, 3, 4], [5, 3, 5], [6, 1, 6], [3, 2, 3, 2], [2, 2, 2, 2, 2]]:
            listed = listed_by_index(radices)
            for first in listed:
                for second in listed:
                    self.assert_at_most_the_difference_of_the_indices(radices, first, second)

    def test_some_pairs_of_many_radices(self):
        for radices in helper.many_radices(3):
            listed = listed_by_index(radices)
            for apart in (1, 2, 5, 7, 40):
                for first, second in zip(listed, listed[apart:]):
                    self.assert_at_most_the_difference_of_the_indices(radices, first, second)


class Changes(unittest.TestCase):
    def test_the_first_digit_in_all_steps_together(self):
        for radices in helper.many_radices(4):
            all_steps = last_element(radices)[0] - 1
            self.assertEqual(count_changes(0, all_steps, radices), [radices[0] - 1], radices)

    def test_the_counts_of_all_digits_add_up_to_the_steps(self):
        for radices in helper.many_radices(3):
            for steps in range(last_element(radices)[0]):
                counts = [count_changes(digit, steps, radices)[0] for digit in range(len(radices))]
                self.assertEqual(sum(counts), steps, (steps, radices))

    def test_each_step_changes_just_the_digit_that_successor_tells(self):
        for radices in helper.many_radices(3):
            counts = [[0] for _ in radices]
            for steps, element in enumerate(listed_by_index(radices)[:-1], start=1):
                counts[successor(radices, element)[0]][0] += 1
                found = [count_changes(digit, steps, radices) for digit in range(len(radices))]
                self.assertEqual(found, counts, (steps, radices))


class Examples(unittest.TestCase):
    def test_the_list(self):
        self.assertEqual(listed_by_index([2, 3]), [[0, 0], [0, 1], [0, 2], [1, 2], [1, 1], [1, 0]])

    def test_the_calls(self):
        self.assertEqual(element_at(3, [2, 3]), [2, 1, 2])
        self.assertEqual(index_of([2, 3], [1, 0]), [5])
        self.assertEqual(successor([2, 3], [0, 2]), [0, 1, 1, 2])
        self.assertEqual(distance([2, 3], [0, 0], [1, 0]), [1, 5])
        self.assertEqual(element_at(6, [2, 3]), [-33])
