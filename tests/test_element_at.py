"""element_at: the order, the edges, the refusals."""

import unittest

from stepdigits.digits import element_at
from tests import helper


def listed(radices, size):
    """The digits of all indices below `size`, as element_at tells them."""
    found = []
    for index in range(size):
        found.append(element_at(index, radices)[1:])
    return found


class Examples(unittest.TestCase):
    def test_element_of_the_example(self):
        self.assertEqual(element_at(3, [2, 3]), [2, 1, 2])

    def test_refusal_of_the_example(self):
        self.assertEqual(element_at(6, [2, 3]), [-33])

    def test_whole_list_of_the_example(self):
        wanted = [[2, 0, 0], [2, 0, 1], [2, 0, 2], [2, 1, 2], [2, 1, 1], [2, 1, 0]]
        self.assertEqual([element_at(index, [2, 3]) for index in range(6)], wanted)


class Order(unittest.TestCase):
    def test_all_indices_of_many_radices(self):
        for radices in helper.many_radices(4):
            for index, digits in enumerate(helper.in_order(radices)):
                self.assertEqual(element_at(index, radices), [len(radices)] + digits, (index, radices))

    def test_even_and_odd_first_digits(self):
        wanted = [[0, 0], [0, 1], [1, 1], [1, 0], [2, 0], [2, 1], [3, 1], [3, 0]]
        self.assertEqual(listed([4, 2], 8), wanted)

    def test_inner_group_in_reversed_order(self):
        wanted = [
            [0, 0, 0], [0, 0, 1], [0, 1, 1], [0, 1, 0], [0, 2, 0], [0, 2, 1],
            [1, 2, 1], [1, 2, 0], [1, 1, 0], [1, 1, 1], [1, 0, 1], [1, 0, 0],
        ]
        self.assertEqual(listed([2, 3, 2], 12), wanted)

    def test_consecutive_ones_have_the_distance_1(self):
        for radices in helper.many_radices(3):
            found = listed(radices, len(helper.in_order(radices)))
            for before, after in zip(found, found[1:]):
                self.assertEqual(helper.digits_apart(before, after), 1, (radices, before, after))


class Edges(unittest.TestCase):
    def test_index_0_has_only_digits_0(self):
        for radices in helper.many_radices(4):
            self.assertEqual(element_at(0, radices), [len(radices)] + [0] * len(radices))

    def test_last_index(self):
        self.assertEqual(element_at(5, [6]), [1, 5])
        self.assertEqual(element_at(5, [2, 3]), [2, 1, 0])
        self.assertEqual(element_at(5, [3, 2]), [2, 2, 1])
        self.assertEqual(element_at(7775, [6, 6, 6, 6, 6]), [5, 5, 0, 0, 0, 0])
        self.assertEqual(element_at(3124, [5, 5, 5, 5, 5]), [5, 4, 4, 4, 4, 4])

    def test_index_size_and_above(self):
        for radices in helper.many_radices(3):
            size = len(helper.in_order(radices))
            self.assertEqual(len(element_at(size - 1, radices)), 1 + len(radices), radices)
            for index in (size, size + 1, 2 * size, helper.LARGEST_NUMBER):
                self.assertEqual(element_at(index, radices), helper.NO_SUCH_ELEMENT, (index, radices))

    def test_one_digit_counts_up(self):
        self.assertEqual(listed([6], 6), [[0], [1], [2], [3], [4], [5]])

    def test_radices_of_1(self):
        self.assertEqual(element_at(0, [1]), [1, 0])
        self.assertEqual(element_at(1, [1]), [-33])
        self.assertEqual(element_at(0, [1, 1, 1, 1, 1]), [5, 0, 0, 0, 0, 0])
        self.assertEqual(element_at(1, [1, 1, 1, 1, 1]), [-33])
        self.assertEqual(listed([2, 1, 2], 4), [[0, 0, 0], [0, 0, 1], [1, 0, 1], [1, 0, 0]])


class WrongRadices(unittest.TestCase):
    def test_refused_whatever_the_index_is(self):
        for radices in helper.WRONG_RADICES:
            for index in (0, 1, 5, 6, 7776, helper.LARGEST_NUMBER):
                self.assertEqual(element_at(index, radices), helper.OUTSIDE_LIMITS, (index, radices))


class NothingKeptOrChanged(helper.NothingKeptOrChanged, unittest.TestCase):
    function = staticmethod(element_at)
    calls = (
        (3, [2, 3]),
        (6, [2, 3]),
        (helper.LARGEST_NUMBER, [2, 3]),
        (40, [3, 4, 5]),
        (7775, [6] * 5),
        (0, [1]),
        (1, [1]),
        (0, []),
        (0, [0]),
        (3, [2, 7]),
        (0, [1] * 7),
    )
