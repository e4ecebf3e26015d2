"""distance: all pairs held against the order and the digits, the edges, the refusals."""

import unittest

from stepdigits.digits import distance
from tests import helper

# Radices whose pairs of elements are few enough to ask for each.
RADICES_FOR_PAIRS = helper.all_radices(1) + helper.all_radices(2) + [
    [2, 3, 4],
    [4, 3, 2],
    [3, 5, 3],
    [6, 1, 6],
    [1, 1, 1],
    [6, 6, 3],
    [2, 3, 2, 3],
    [4, 1, 3, 2],
    [1, 1, 1, 1],
    [1, 1, 1, 1, 1],
    [2, 2, 2, 2, 2],
    [3, 1, 5, 1, 3],
    [1, 6, 1, 6, 1],
    [3, 2, 3, 2, 3],
]


class Examples(unittest.TestCase):
    def test_first_and_last_of_the_example(self):
        self.assertEqual(distance([2, 3], [0, 0], [1, 0]), [1, 5])

    def test_each_of_the_example_from_its_first(self):
        listed = ([0, 0], [0, 1], [0, 2], [1, 2], [1, 1], [1, 0])
        wanted = [[0, 0], [1, 1], [2, 2], [3, 3], [2, 4], [1, 5]]
        self.assertEqual([distance([2, 3], [0, 0], element) for element in listed], wanted)


class Order(unittest.TestCase):
    def test_each_pair_in_both_orders(self):
        for radices in RADICES_FOR_PAIRS:
            listed = helper.in_order(radices)
            for index, first in enumerate(listed):
                for other_index, second in enumerate(listed):
                    wanted = [helper.digits_apart(first, second), abs(index - other_index)]
                    self.assertEqual(distance(radices, first, second), wanted, (radices, first, second))

    def test_each_element_of_many_radices_with_the_first_and_the_last(self):
        for radices in helper.many_radices(3):
            listed = helper.in_order(radices)
            for index, element in enumerate(listed):
                from_first = [helper.digits_apart(listed[0], element), index]
                from_last = [helper.digits_apart(listed[-1], element), len(listed) - 1 - index]
                self.assertEqual(distance(radices, listed[0], element), from_first, (radices, element))
                self.assertEqual(distance(radices, element, listed[0]), from_first, (radices, element))
                self.assertEqual(distance(radices, listed[-1], element), from_last, (radices, element))
                self.assertEqual(distance(radices, element, listed[-1]), from_last, (radices, element))


class Edges(unittest.TestCase):
    def test_an_element_with_itself(self):
        for radices in helper.many_radices(3):
            for element in helper.in_order(radices):
                self.assertEqual(distance(radices, element, list(element)), [0, 0], (radices, element))

    def test_one_and_the_same_list(self):
        for radices, element in (([1], [0]), ([2, 3], [1, 0]), ([6] * 5, [5, 4, 3, 2, 1])):
            given = helper.FrozenList(element)
            self.assertEqual(distance(radices, given, given), [0, 0])
            self.assertEqual(given, element)

    def test_one_list_for_all_three(self):
        given = helper.FrozenList([2, 3])
        self.assertEqual(distance(given, given, given), [-22])
        self.assertEqual(given, [2, 3])

    def test_first_and_last_element(self):
        self.assertEqual(distance([6], [0], [5]), [5, 5])
        self.assertEqual(distance([3, 2], [0, 0], [2, 1]), [3, 5])
        self.assertEqual(distance([3, 2], [2, 1], [0, 0]), [3, 5])
        self.assertEqual(distance([6, 6, 6, 6, 6], [0, 0, 0, 0, 0], [5, 0, 0, 0, 0]), [5, 7775])
        self.assertEqual(distance([5, 5, 5, 5, 5], [4, 4, 4, 4, 4], [0, 0, 0, 0, 0]), [20, 3124])

    def test_one_digit(self):
        for first in range(6):
            for second in range(6):
                self.assertEqual(distance([6], [first], [second]), [abs(first - second)] * 2)

    def test_5_digits(self):
        self.assertEqual(distance([2, 2, 2, 2, 2], [0, 0, 0, 0, 0], [1, 1, 1, 1, 1]), [5, 21])
        self.assertEqual(distance([2, 2, 2, 2, 2], [0, 0, 0, 0, 1], [1, 0, 0, 0, 1]), [1, 29])
        self.assertEqual(distance([6, 6, 6, 6, 6], [0, 5, 0, 0, 0], [1, 5, 0, 0, 0]), [1, 1])
        self.assertEqual(distance([6, 6, 6, 6, 6], [0, 5, 5, 5, 5], [5, 0, 0, 0, 0]), [25, 6665])

    def test_digits_that_differ_by_more_than_1(self):
        self.assertEqual(distance([2, 3], [0, 0], [0, 2]), [2, 2])
        self.assertEqual(distance([6, 2], [1, 0], [5, 0]), [4, 8])
        self.assertEqual(distance([6, 6], [0, 1], [3, 5]), [7, 17])

    def test_larger_in_one_digit_and_smaller_in_another(self):
        self.assertEqual(distance([2, 3], [0, 2], [1, 0]), [3, 3])
        self.assertEqual(distance([2, 3], [1, 0], [0, 2]), [3, 3])
        self.assertEqual(distance([3, 3], [0, 1], [1, 0]), [2, 4])
        self.assertEqual(distance([4, 4, 4], [3, 0, 2], [0, 3, 2]), [6, 48])

    def test_radices_of_1(self):
        self.assertEqual(distance([2, 1, 2], [0, 0, 0], [1, 0, 0]), [1, 3])
        self.assertEqual(distance([1, 2, 1], [0, 1, 0], [0, 0, 0]), [1, 1])
        self.assertEqual(distance([1, 1, 1, 1, 6], [0, 0, 0, 0, 5], [0, 0, 0, 0, 2]), [3, 3])

    def test_radices_all_1(self):
        for length in range(1, 6):
            self.assertEqual(distance([1] * length, [0] * length, [0] * length), [0, 0])


class WrongElements(unittest.TestCase):
    def assert_refused_in_each_place(self, radices, wrong, right):
        for first, second in ((wrong, right), (right, wrong), (wrong, wrong)):
            self.assertEqual(distance(radices, first, second), helper.OUTSIDE_LIMITS, (radices, first, second))

    def test_too_few_or_too_many_digits(self):
        for radices in helper.many_radices(3):
            right = helper.in_order(radices)[-1]
            for wrong in helper.wrong_lengths(radices):
                self.assert_refused_in_each_place(radices, wrong, right)

    def test_a_digit_not_less_than_its_radix(self):
        for radices in helper.many_radices(3):
            right = helper.in_order(radices)[-1]
            for wrong in helper.wrong_digits(radices):
                self.assert_refused_in_each_place(radices, wrong, right)

    def test_one_wrong_by_its_length_and_one_by_a_digit(self):
        self.assertEqual(distance([2, 3], [0], [0, 3]), [-22])
        self.assertEqual(distance([2, 3], [2, 0], [0, 0, 0]), [-22])

    def test_each_digit_is_held_against_its_own_radix(self):
        self.assert_refused_in_each_place([2, 3], [2, 1], [1, 2])
        self.assert_refused_in_each_place([3, 2], [1, 2], [2, 1])

    def test_named_ones(self):
        for wrong in ([], [0], [0, 0, 0], [0, 3], [2, 0], [helper.LARGEST_NUMBER, 0], [0, helper.LARGEST_NUMBER]):
            self.assertEqual(distance([2, 3], wrong, [0, 0]), [-22])
            self.assertEqual(distance([2, 3], [0, 0], wrong), [-22])
            self.assertEqual(distance([2, 3], wrong, wrong), [-22])


class WrongRadices(unittest.TestCase):
    def test_refused_whatever_the_two_are(self):
        for radices in helper.WRONG_RADICES:
            given = helper.elements_for_wrong_radices(radices)
            for first in given:
                for second in given:
                    self.assertEqual(distance(radices, first, second), helper.OUTSIDE_LIMITS,
                                     (radices, first, second))

    def test_named_ones(self):
        self.assertEqual(distance([], [], []), [-22])
        self.assertEqual(distance([1] * 6, [0] * 6, [0] * 6), [-22])
        self.assertEqual(distance([1] * 7, [0] * 7, [0] * 7), [-22])
        self.assertEqual(distance([2, 0], [0, 0], [0, 0]), [-22])
        self.assertEqual(distance([7, 3], [6, 0], [0, 0]), [-22])
        self.assertEqual(distance([2, helper.LARGEST_NUMBER], [0, 0], [1, 5]), [-22])


class NothingKeptOrChanged(helper.NothingKeptOrChanged, unittest.TestCase):
    function = staticmethod(distance)
    calls = (
        ([2, 3], [0, 0], [1, 0]),
        ([2, 3], [1, 0], [0, 0]),
        ([2, 3], [1, 1], [1, 1]),
        ([6] * 5, [5, 4, 3, 2, 1], [0, 1, 2, 3, 4]),
        ([6] * 5, [0] * 5, [5, 0, 0, 0, 0]),
        ([6], [0], [5]),
        ([1], [0], [0]),
        ([2, 3], [1, 3], [0, 0]),
        ([2, 3], [0, 0], [1]),
        ([2, 3], [], []),
        ([], [], []),
        ([2, 7], [1, 6], [0, 0]),
        ([1] * 6, [0] * 6, [0] * 6),
    )
