"""What several tests need: the order as the document tells it, and ways to ask."""

import itertools

LARGEST_NUMBER = 4294967295

NO_SUCH_DIGIT = [-2]
OUTSIDE_LIMITS = [-22]
NO_SUCH_ELEMENT = [-33]


def one_wrong_radix():
    """Each wrong radix in each position, with the others all right."""
    found = []
    for right in ([2, 3, 2, 3, 2], [1, 1, 1, 1, 1], [6, 6, 6, 6, 6]):
        for wrong in (0, 7, LARGEST_NUMBER):
            for length in range(1, 6):
                for position in range(length):
                    found.append(right[:position] + [wrong] + right[position + 1:length])
    return found


# Radices that are outside their limits, each for a reason of its own.
WRONG_RADICES = [
    [],
    [2, 2, 2, 2, 2, 2],
    [1, 1, 1, 1, 1, 1],
    [6, 6, 6, 6, 6, 6],
    [2, 2, 2, 2, 2, 2, 2],
    [1, 1, 1, 1, 1, 1, 1],
    [6, 6, 6, 6, 6, 6, 6],
    [0, 0, 0, 0, 0],
    [7, 7, 7, 7, 7],
    [0, 7],
    [7, 0],
    [LARGEST_NUMBER] * 7,
] + one_wrong_radix()

# Elements that a call with wrong radices may come with.
ANY_ELEMENTS = (
    [],
    [0],
    [6],
    [0, 0, 0],
    [1, 0, 2],
    [0] * 5,
    [0] * 6,
    [0] * 7,
    [LARGEST_NUMBER] * 3,
)

# With 5 digits a few radices only: all of them would take long.
FIVE_RADICES = (
    [1, 1, 1, 1, 1],
    [2, 2, 2, 2, 2],
    [2, 3, 4, 5, 6],
    [6, 5, 4, 3, 2],
    [3, 1, 5, 1, 3],
    [1, 6, 1, 6, 1],
    [5, 5, 5, 5, 5],
    [6, 6, 6, 6, 6],
)


def all_radices(length):
    """All radices within their limits with this many digits."""
    return [list(radices) for radices in itertools.product(range(1, 7), repeat=length)]


def many_radices(longest):
    """All radices within their limits with 1 to `longest` digits, and some with 5."""
    found = []
    for length in range(1, longest + 1):
        found.extend(all_radices(length))
    return found + list(FIVE_RADICES)


def in_order(radices):
    """All lists of digits, in the order that the document's "Terms" tell."""
    if not radices:
        return [[]]
    others = in_order(radices[1:])
    listed = []
    for first in range(radices[0]):
        group = others if first % 2 == 0 else list(reversed(others))
        for rest in group:
            listed.append([first] + rest)
    return listed


def digits_apart(first, second):
    """The distance of two elements, as the document's "Terms" tell it."""
    return sum(abs(a - b) for a, b in zip(first, second, strict=True))


def elements_for_wrong_radices(radices):
    """Elements to ask with; the last two have a digit for each radix, where a radix allows one."""
    return ANY_ELEMENTS + ([0] * len(radices), [max(radix, 1) - 1 for radix in radices])


def wrong_lengths(radices):
    """Lists of digits that are no elements as they have too few or too many, or none."""
    found = []
    for whole in (in_order(radices)[0], in_order(radices)[-1]):
        for length in range(8):
            if length != len(radices):
                found.append((whole + [0] * 7)[:length])
    return found


def wrong_digits(radices):
    """Lists of digits that are no elements as one digit isn't less than its radix."""
    found = []
    for whole in (in_order(radices)[0], in_order(radices)[-1]):
        for position, radix in enumerate(radices):
            for digit in (radix, radix + 1, LARGEST_NUMBER):
                found.append(whole[:position] + [digit] + whole[position + 1:])
    return found


def refuse(*_, **__):
    raise AssertionError("a list that was handed in is changed")


class FrozenList(list):
    """A list that lets nobody change it, not for a while either."""

    __setitem__ = __delitem__ = __iadd__ = __imul__ = refuse
    append = clear = extend = insert = pop = remove = reverse = sort = refuse


class NothingKeptOrChanged:
    """Tests for a TestCase that has a `function` and its `calls`, each a tuple of what is handed in."""

    def answers(self, calls):
        return [self.function(*call) for call in calls]

    def test_lists_stay_as_they_were(self):
        for call in self.calls:
            handed_in = tuple(FrozenList(given) if isinstance(given, list) else given for given in call)
            self.function(*handed_in)
            self.assertEqual(handed_in, call)

    def test_second_call_answers_as_the_first(self):
        first_answers = self.answers(self.calls)
        self.assertEqual(self.answers(self.calls), first_answers)
        self.assertEqual(self.answers(reversed(self.calls)), first_answers[::-1])

    def test_an_answer_belongs_to_the_caller(self):
        for call in self.calls:
            answer = self.function(*call)
            kept = list(answer)
            answer[0] = 9
            answer.extend([9, 9])
            self.assertEqual(self.function(*call), kept)
