"""index_of: the order, the edges, the refusals."""

import unittest

from stepdigits.digits import index_of
from tests import helper


class Examples(unittest.TestCase):
    def test_index_of_the_example(self):
        self.assertEqual(index_of([2, 3], [1, 0]), [5])

    def test_whole_list_of_the_example(self):
        listed = ([0, 0], [0, 1], [0, 2], [1, 2], [1, 1], [1, 0])
        self.assertEqual([index_of([2, 3], element) for element in listed], [[i] for i in range(6)])


class Order(unittest.TestCase):
    def test_all_elements_of_many_radices(self):
        for radices in helper.many_radices(4):
            for index, element in enumerate(helper.in_order(radices)):
                self.assertEqual(index_of(radices, element), [index], (radices, element))

    def test_even_and_odd_first_digits(self):
        listed = ([0, 0], [0, 1], [1, 1], [1, 0], [2, 0], [2, 1], [3, 1], [3, 0])
        self.assertEqual([index_of([4, 2], element) for element in listed], [[i] for i in range(8)])

    def test_inner_group_in_reversed_order(self):
        self.assertEqual(index_of([2, 3, 2], [1, 2, 1]), [6])
        self.assertEqual(index_of([2, 3, 2], [1, 2, 0]), [7])
        self.assertEqual(index_of([2, 3, 2], [1, 1, 0]), [8])
        self.assertEqual(index_of([2, 3, 2], [1, 1, 1]), [9])
        self.assertEqual(index_of([2, 3, 2], [1, 0, 1]), [10])
        self.assertEqual(index_of([2, 3, 2], [1, 0, 0]), [11])


class Edges(unittest.TestCase):
    def test_first_element(self):
        for radices in helper.many_radices(4):
            self.assertEqual(index_of(radices, [0] * len(radices)), [0], radices)

    def test_last_element(self):
        self.assertEqual(index_of([6], [5]), [5])
        self.assertEqual(index_of([3, 2], [2, 1]), [5])
        self.assertEqual(index_of([6, 6, 6, 6, 6], [5, 0, 0, 0, 0]), [7775])
        self.assertEqual(index_of([5, 5, 5, 5, 5], [4, 4, 4, 4, 4]), [3124])

    def test_one_digit_is_its_own_index(self):
        for digit in range(6):
            self.assertEqual(index_of([6], [digit]), [digit])

    def test_radices_of_1(self):
        self.assertEqual(index_of([1], [0]), [0])
        self.assertEqual(index_of([1, 1, 1, 1, 1], [0, 0, 0, 0, 0]), [0])
        self.assertEqual(index_of([2, 1, 2], [1, 0, 1]), [2])
        self.assertEqual(index_of([2, 1, 2], [1, 0, 0]), [3])


class WrongElements(unittest.TestCase):
    def test_too_few_or_too_many_digits(self):
        for radices in helper.many_radices(3):
            for element in helper.wrong_lengths(radices):
                self.assertEqual(index_of(radices, element), helper.OUTSIDE_LIMITS, (radices, element))

    def test_a_digit_not_less_than_its_radix(self):
        for radices in helper.many_radices(3):
            for element in helper.wrong_digits(radices):
                self.assertEqual(index_of(radices, element), helper.OUTSIDE_LIMITS, (radices, element))

    def test_each_digit_is_held_against_its_own_radix(self):
        self.assertEqual(index_of([2, 3], [2, 1]), helper.OUTSIDE_LIMITS)
        self.assertEqual(index_of([3, 2], [1, 2]), helper.OUTSIDE_LIMITS)


class WrongRadices(unittest.TestCase):
    def test_refused_whatever_the_element_is(self):
        for radices in helper.WRONG_RADICES:
            for element in helper.elements_for_wrong_radices(radices):
                self.assertEqual(index_of(radices, element), helper.OUTSIDE_LIMITS, (radices, element))


class NothingKeptOrChanged(helper.NothingKeptOrChanged, unittest.TestCase):
    function = staticmethod(index_of)
    calls = (
        ([2, 3], [1, 0]),
        ([6] * 5, [5, 4, 3, 2, 1]),
        ([6] * 5, [5, 5, 5, 5, 5]),
        ([2, 3], [1, 3]),
        ([2, 3], [1]),
        ([2, 3], []),
        ([3, 4, 5], [2, 1, 3]),
        ([0], [0]),
        ([], []),
        ([2, 7], [1, 6]),
    )
