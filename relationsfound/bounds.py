"""A bound, and its inputs in their order."""

from relationsfound.refusals import NotAsTold

GREATEST_LENGTH = 8
FARTHEST_NUMBER = 99
MOST_INPUTS = 1500


class Bound:
    """All rows of up to so many numbers from the first one to the second one."""

    def __init__(self, length, first, second):
        self.length = length
        self.first = first
        self.second = second


def how_many_inputs(bound):
    width = bound.second - bound.first + 1
    as_long = 1
    total = 1
    for length in range(bound.length):
        as_long *= width
        total += as_long
    return total


def bound_as_told(length, first, second):
    if length < 0 or length > GREATEST_LENGTH:
        raise NotAsTold()
    if first < -FARTHEST_NUMBER or second > FARTHEST_NUMBER or first > second:
        raise NotAsTold()
    bound = Bound(length, first, second)
    if how_many_inputs(bound) > MOST_INPUTS:
        raise NotAsTold()
    return bound


def one_longer(rows, bound):
    """Each row with each number behind it: in order, if the rows are."""
    longer = []
    for row in rows:
        for number in range(bound.first, bound.second + 1):
            longer.append(row + [number])
    return longer


def inputs_in_order(bound):
    as_long = [[]]
    rows = [[]]
    for length in range(bound.length):
        as_long = one_longer(as_long, bound)
        rows.extend(as_long)
    return rows
