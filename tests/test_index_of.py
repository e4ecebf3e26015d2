"""index_of: the order, the inverse of element_at, the edges, the refusals."""

import unittest

from stepdigits.digits import element_at, index_of
from tests import helper

# Elements that a call with wrong radices may come with.
ANY_ELEMENTS = (
    [],
    [0],
    [6],
    [0, 0, 0],
    [1, 0, 2],
    [0] * 5,
    [0] * 6,
    [0] * 7,
    [helper.LARGEST_NUMBER] * 3,
)


class Examples(unittest.TestCase):
    def test_index_of_the_example(self):
        self.assertEqual(index_of([2, 3], [1, 0]), [5])

    def test_whole_list_of_the_example(self):
        listed = ([0, 0], [0, 1], [0, 2], [1, 2], [1, 1], [1, 0])
        self.assertEqual([index_of([2, 3], element) for element in listed], [[i] for i in range(6)])


class Order(unittest.TestCase):
    def test_all_elements_of_many_radices(self):
        for radices in helper.many_radices(4):
            for index, element in enumerate(helper.in_order(radices)):
                self.assertEqual(index_of(radices, element), [index], (radices, element))

    def test_even_and_odd_first_digits(self):
        listed = ([0, 0], [0, 1], [1, 1], [1, 0], [2, 0], [2, 1], [3, 1], [3, 0])
        self.assertEqual([index_of([4, 2], element) for element in listed], [[i] for i in range(8)])

    def test_inner_group_in_reversed_order(self):
        self.assertEqual(index_of([2, 3, 2], [1, 2, 1]), [6])
        self.assertEqual(index_of([2, 3, 2], [1, 2, 0]), [7])
        self.assertEqual(index_of([2, 3, 2], [1, 1, 0]), [8])
        self.assertEqual(index_of([2, 3, 2], [1, 1, 1]), [9])
        self.assertEqual(index_of([2, 3, 2], [1, 0, 1]), [10])
        self.assertEqual(index_of([2, 3, 2], [1, 0, 0]), [11])


class Ranking(unittest.TestCase):
    def test_from_index_to_element_and_back(self):
        for radices in helper.many_radices(3):
            for index in range(len(helper.in_order(radices))):
                element = element_at(index, radices)[1:]
                self.assertEqual(index_of(radices, element), [index], (radices, element))

    def test_from_element_to_index_and_back(self):
        for radices in helper.many_radices(3):
            for element in helper.in_order(radices):
                index = index_of(radices, element)[0]
                self.assertEqual(element_at(index, radices), [len(radices)] + element, (radices, element))


class Edges(unittest.TestCase):
    def test_first_element(self):
        for radices in helper.many_radices(4):
            self.assertEqual(index_of(radices, [0] * len(radices)), [0], radices)

    def test_last_element(self):
        self.assertEqual(index_of([6], [5]), [5])
        self.assertEqual(index_of([3, 2], [2, 1]), [5])
        self.assertEqual(index_of([6, 6, 6, 6, 6], [5, 0, 0, 0, 0]), [7775])
        self.assertEqual(index_of([5, 5, 5, 5, 5], [4, 4, 4, 4, 4]), [3124])

    def test_one_digit_is_its_own_index(self):
        for digit in range(6):
            self.assertEqual(index_of([6], [digit]), [digit])

    def test_radices_of_1(self):
        self.assertEqual(index_of([1], [0]), [0])
        self.assertEqual(index_of([1, 1, 1, 1, 1], [0, 0, 0, 0, 0]), [0])
        self.assertEqual(index_of([2, 1, 2], [1, 0, 1]), [2])
        self.assertEqual(index_of([2, 1, 2], [1, 0, 0]), [3])


class WrongElements(unittest.TestCase):
    def test_too_few_or_too_many_digits(self):
        for radices in helper.many_radices(3):
            for length in range(8):
                if length != len(radices):
                    element = [0] * length
                    self.assertEqual(index_of(radices, element), helper.OUTSIDE_LIMITS, (radices, element))

    def test_a_digit_not_less_than_its_radix(self):
        for radices in helper.many_radices(3):
            for position, radix in enumerate(radices):
                for digit in (radix, radix + 1, helper.LARGEST_NUMBER):
                    element = [0] * len(radices)
                    element[position] = digit
                    self.assertEqual(index_of(radices, element), helper.OUTSIDE_LIMITS, (radices, element))

    def test_each_digit_is_held_against_its_own_radix(self):
        self.assertEqual(index_of([2, 3], [2, 1]), helper.OUTSIDE_LIMITS)
        self.assertEqual(index_of([3, 2], [1, 2]), helper.OUTSIDE_LIMITS)


class WrongRadices(unittest.TestCase):
    def test_refused_whatever_the_element_is(self):
        for radices in helper.WRONG_RADICES:
            # The last two have a digit for each radix, where a radix allows one.
            smallest = [0] * len(radices)
            largest = [max(radix, 1) - 1 for radix in radices]
            for element in ANY_ELEMENTS + (smallest, largest):
                self.assertEqual(index_of(radices, element), helper.OUTSIDE_LIMITS, (radices, element))


class NothingKeptOrChanged(unittest.TestCase):
    def test_lists_stay_as_they_were(self):
        calls = (
            ([2, 3], [1, 0]),
            ([6] * 5, [5, 4, 3, 2, 1]),
            ([2, 3], [1, 3]),
            ([2, 3], [1]),
            ([2, 3], []),
            ([], []),
            ([2, 7], [1, 6]),
        )
        for radices, element in calls:
            handed_in = (helper.FrozenList(radices), helper.FrozenList(element))
            index_of(*handed_in)
            self.assertEqual(handed_in, (radices, element))

    def test_second_call_answers_as_the_first(self):
        calls = (([2, 3], [1, 0]), ([2, 3], [0, 3]), ([0], [0]), ([3, 4, 5], [2, 1, 3]), ([6] * 5, [5, 5, 5, 5, 5]))
        first_answers = [index_of(*call) for call in calls]
        self.assertEqual([index_of(*call) for call in calls], first_answers)

    def test_an_answer_belongs_to_the_caller(self):
        for call in (([2, 3], [1, 0]), ([2, 3], [0, 3]), ([], [])):
            answer = index_of(*call)
            kept = list(answer)
            answer.append(9)
            answer[0] = 9
            self.assertEqual(index_of(*call), kept)
