"""What several tests need: the order as the document tells it, and ways to ask."""

import itertools

LARGEST_NUMBER = 4294967295

OUTSIDE_LIMITS = [-22]
NO_SUCH_ELEMENT = [-33]

# Radices that are outside their limits, each for a reason of its own.
WRONG_RADICES = (
    [],
    [2, 2, 2, 2, 2, 2],
    [1, 1, 1, 1, 1, 1],
    [2, 2, 2, 2, 2, 2, 2],
    [1, 1, 1, 1, 1, 1, 1],
    [0],
    [0, 2, 3],
    [2, 0, 3],
    [2, 3, 0],
    [0, 0, 0, 0, 0],
    [7],
    [7, 2, 3],
    [2, 7, 3],
    [2, 3, 7],
    [6, 6, 6, 6, 7],
    [LARGEST_NUMBER],
    [LARGEST_NUMBER, 2, 3],
    [2, LARGEST_NUMBER, 3],
    [2, 3, LARGEST_NUMBER],
    [LARGEST_NUMBER] * 7,
)

# With 5 digits a few radices only: all of them would take long.
FIVE_RADICES = (
    [1, 1, 1, 1, 1],
    [2, 2, 2, 2, 2],
    [2, 3, 4, 5, 6],
    [6, 5, 4, 3, 2],
    [3, 1, 5, 1, 3],
    [1, 6, 1, 6, 1],
    [5, 5, 5, 5, 5],
    [6, 6, 6, 6, 6],
)


def many_radices(longest):
    """All radices within their limits with 1 to `longest` digits, and some with 5."""
    found = []
    for length in range(1, longest + 1):
        for radices in itertools.product(range(1, 7), repeat=length):
            found.append(list(radices))
    return found + list(FIVE_RADICES)


def in_order(radices):
    """All lists of digits, in the order that the document's "Terms" tell."""
    if not radices:
        return [[]]
    others = in_order(radices[1:])
    listed = []
    for first in range(radices[0]):
        group = others if first % 2 == 0 else list(reversed(others))
        for rest in group:
            listed.append([first] + rest)
    return listed


def refuse(*_, **__):
    raise AssertionError("a list that was handed in is changed")


class FrozenList(list):
    """A list that lets nobody change it, not for a while either."""

    __setitem__ = __delitem__ = __iadd__ = __imul__ = refuse
    append = clear = extend = insert = pop = remove = reverse = sort = refuse
