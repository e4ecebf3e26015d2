"""last_element: the size and the last of the order, the edges, the refusals."""

import itertools
import unittest

from stepdigits.digits import element_at, index_of, last_element, successor
from tests import helper


class Examples(unittest.TestCase):
    def test_last_of_the_example(self):
        self.assertEqual(last_element([2, 3]), [6, 1, 0])

    def test_radices_of_the_example_in_the_other_order(self):
        self.assertEqual(last_element([3, 2]), [6, 2, 1])


class Order(unittest.TestCase):
    def test_many_radices(self):
        for radices in helper.many_radices(4):
            listed = helper.in_order(radices)
            self.assertEqual(last_element(radices), [len(listed)] + listed[-1], radices)

    def test_odd_and_even_radices_in_each_of_5_positions(self):
        for radices in itertools.product((1, 2, 3), repeat=5):
            listed = helper.in_order(radices)
            self.assertEqual(last_element(list(radices)), [len(listed)] + listed[-1], radices)


class BesideTheOthers(unittest.TestCase):
    def setUp(self):
        self.told = []
        for radices in helper.many_radices(4):
            answer = last_element(radices)
            self.told.append((radices, answer[0], answer[1:]))

    def test_its_index_is_the_size_less_1(self):
        for radices, size, element in self.told:
            self.assertEqual(index_of(radices, element), [size - 1], radices)

    def test_it_stands_at_the_index_size_less_1(self):
        for radices, size, element in self.told:
            self.assertEqual(element_at(size - 1, radices), [len(radices)] + element, radices)

    def test_no_element_stands_at_the_index_size(self):
        for radices, size, _ in self.told:
            self.assertEqual(element_at(size, radices), helper.NO_SUCH_ELEMENT, radices)

    def test_it_has_no_successor(self):
        for radices, _, element in self.told:
            self.assertEqual(successor(radices, element), helper.NO_SUCH_ELEMENT, radices)


class Edges(unittest.TestCase):
    def test_one_digit(self):
        for radix in range(1, 7):
            self.assertEqual(last_element([radix]), [radix, radix - 1])

    def test_5_digits(self):
        self.assertEqual(last_element([6, 6, 6, 6, 6]), [7776, 5, 0, 0, 0, 0])
        self.assertEqual(last_element([5, 5, 5, 5, 5]), [3125, 4, 4, 4, 4, 4])
        self.assertEqual(last_element([5, 3, 6, 5, 4]), [1800, 4, 2, 5, 0, 0])
        self.assertEqual(last_element([2, 3, 4, 5, 6]), [720, 1, 0, 0, 0, 0])

    def test_radices_of_1(self):
        self.assertEqual(last_element([2, 1, 2]), [4, 1, 0, 0])
        self.assertEqual(last_element([1, 2, 1]), [2, 0, 1, 0])
        self.assertEqual(last_element([1, 1, 1, 1, 6]), [6, 0, 0, 0, 0, 5])
        self.assertEqual(last_element([3, 1, 5, 1, 3]), [45, 2, 0, 4, 0, 2])

    def test_radices_all_1(self):
        for length in range(1, 6):
            self.assertEqual(last_element([1] * length), [1] + [0] * length)

    def test_the_only_even_radix_in_each_position(self):
        self.assertEqual(last_element([4, 3, 5]), [60, 3, 0, 0])
        self.assertEqual(last_element([3, 4, 5]), [60, 2, 3, 0])
        self.assertEqual(last_element([3, 5, 4]), [60, 2, 4, 3])

    def test_the_only_odd_radix_in_each_position(self):
        self.assertEqual(last_element([3, 4, 6]), [72, 2, 3, 0])
        self.assertEqual(last_element([4, 3, 6]), [72, 3, 0, 0])
        self.assertEqual(last_element([4, 6, 3]), [72, 3, 0, 0])


class WrongRadices(unittest.TestCase):
    def test_refused(self):
        for radices in helper.WRONG_RADICES:
            self.assertEqual(last_element(radices), helper.OUTSIDE_LIMITS, radices)

    def test_named_ones(self):
        self.assertEqual(last_element([]), [-22])
        self.assertEqual(last_element([1] * 6), [-22])
        self.assertEqual(last_element([1] * 7), [-22])
        self.assertEqual(last_element([2, 0]), [-22])
        self.assertEqual(last_element([7, 3]), [-22])
        self.assertEqual(last_element([2, helper.LARGEST_NUMBER]), [-22])


class NothingKeptOrChanged(helper.NothingKeptOrChanged, unittest.TestCase):
    function = staticmethod(last_element)
    calls = (
        ([2, 3],),
        ([3, 2],),
        ([6] * 5,),
        ([5] * 5,),
        ([6],),
        ([1],),
        ([1] * 5,),
        ([],),
        ([0],),
        ([2, 7],),
        ([1] * 6,),
    )
