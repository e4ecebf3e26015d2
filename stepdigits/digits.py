"""The reflected mixed-radix Gray code: its order, how often a digit changes in it, and how far two are apart."""

MOST_DIGITS = 5
LARGEST_RADIX = 6

NO_SUCH_DIGIT = -2
OUTSIDE_LIMITS = -22
NO_SUCH_ELEMENT = -33


def radices_within_limits(radices):
    """Tell whether there are 1 to 5 radices, each from 1 to 6."""
    if len(radices) < 1 or len(radices) > MOST_DIGITS:
        return False
    for radix in radices:
        if radix < 1 or radix > LARGEST_RADIX:
            return False
    return True


def size_of(radices):
    """Answer how many lists of digits these radices allow."""
    size = 1
    for radix in radices:
        size = size * radix
    return size


def is_element(element, radices):
    """Tell whether there is one digit for each radix and each is less than its radix."""
    if len(element) != len(radices):
        return False
    for digit, radix in zip(element, radices):
        if digit >= radix:
            return False
    return True


def element_at(index, radices):
    """Answer the number of digits and then the digits of the element with this index."""
    if not radices_within_limits(radices):
        return [OUTSIDE_LIMITS]
    group_size = size_of(radices)
    if index >= group_size:
        return [NO_SUCH_ELEMENT]
    answer = [len(radices)]
    place = index
    for radix in radices:
        group_size = group_size // radix
        digit = place // group_size
        place = place % group_size
        if digit % 2 == 1:
            # The group behind an odd digit runs in reversed order.
            place = group_size - 1 - place
        answer.append(digit)
    return answer


def index_of(radices, element):
    """Answer the index of the element."""
    if not radices_within_limits(radices):
        return [OUTSIDE_LIMITS]
    if not is_element(element, radices):
        return [OUTSIDE_LIMITS]
    group_size = 1
    place = 0
    for position in range(len(radices) - 1, -1, -1):
        digit = element[position]
        if digit % 2 == 1:
            # The group behind an odd digit runs in reversed order.
            place = group_size - 1 - place
        place = digit * group_size + place
        group_size = group_size * radices[position]
    return [place]


def runs_upward(element, position):
    """Tell whether the digit at this position grows while those ahead of it stay."""
    # Each odd digit ahead reverses the order behind it, so two of them leave it as it was.
    return sum(element[:position]) % 2 == 0


def successor(radices, element):
    """Answer the position of the digit that changes, 1 or 0 as it grows or falls, and the next element."""
    if not radices_within_limits(radices):
        return [OUTSIDE_LIMITS]
    if not is_element(element, radices):
        return [OUTSIDE_LIMITS]
    # A digit changes only when each digit behind it has come to the end of its run.
    for position in range(len(radices) - 1, -1, -1):
        upward = runs_upward(element, position)
        changed = element[position] + (1 if upward else -1)
        if changed >= 0 and changed < radices[position]:
            following = element[:position] + [changed] + element[position + 1:]
            return [position, 1 if upward else 0] + following
    return [NO_SUCH_ELEMENT]


def last_element(radices):
    """Answer how many lists of digits there are, and then the digits of the last one."""
    if not radices_within_limits(radices):
        return [OUTSIDE_LIMITS]
    size = size_of(radices)
    # What element_at answers begins with the number of digits.
    return [size] + element_at(size - 1, radices)[1:]


def count_changes(digit, steps, radices):
    """Answer in how many of the first steps the digit at this position changes."""
    if not radices_within_limits(radices):
        return [OUTSIDE_LIMITS]
    if digit >= len(radices):
        return [NO_SUCH_DIGIT]
    if steps >= size_of(radices):
        return [OUTSIDE_LIMITS]
    # Each time the digits behind have been through all they allow, this digit or one ahead of it changes.
    here_or_ahead = steps // size_of(radices[digit + 1:])
    ahead = steps // size_of(radices[digit:])
    return [here_or_ahead - ahead]


def distance(radices, first, second):
    """Answer the sum of the differences of the digits, and the difference of the indices."""
    if not radices_within_limits(radices):
        return [OUTSIDE_LIMITS]
    if not is_element(first, radices) or not is_element(second, radices):
        return [OUTSIDE_LIMITS]
    apart = sum([abs(one - other) for one, other in zip(first, second)])
    first_index = index_of(radices, first)[0]
    second_index = index_of(radices, second)[0]
    return [apart, abs(first_index - second_index)]
