"""Conditions on a row, and how two rows stand to one another.

A condition is its number and its k (0 where it has none), a way in which rows stand is its number.
"""


class Relation:
    """A condition, an input's turning, how outputs stand, and an output's turning."""

    def __init__(self, condition, input_turning, way, output_turning):
        self.condition = condition
        self.input_turning = input_turning
        self.way = way
        self.output_turning = output_turning


def always(row, least_count):
    return True


def has_numbers(row, least_count):
    return len(row) > 0


def is_rising(row, least_count):
    return row == sorted(row)


def none_below_zero(row, least_count):
    return not row or min(row) >= 0


def none_twice(row, least_count):
    return len(set(row)) == len(row)


def has_as_many(row, least_count):
    return len(row) >= least_count


# At a condition's number stands what it asks of a row.
CONDITIONS = (always, has_numbers, is_rising, none_below_zero, none_twice, has_as_many)

CONDITION_ANY = 0
CONDITION_HAS_NUMBERS = 1

# The one condition that has a k, and the greatest one it may have.
CONDITION_WITH_COUNT = 5
GREATEST_COUNT = 9


def equal(left, right):
    return left == right


def same_bag(left, right):
    return sorted(left) == sorted(right)


def same_numbers(left, right):
    return set(left) == set(right)


def at_most(left, right):
    return len(left) == len(right) and all([first <= second for first, second in zip(left, right)])


def at_least(left, right):
    return at_most(right, left)


def begins(left, right):
    return right[:len(left)] == left


def as_long(left, right):
    return len(left) == len(right)


# At a way's number stands whether the left row stands so to the right one.
WAYS = (equal, same_bag, same_numbers, at_most, at_least, begins, as_long)


def which_fit(condition, rows):
    """Whether the condition is so, row by row."""
    is_so = CONDITIONS[condition[0]]
    return [is_so(row, condition[1]) for row in rows]
