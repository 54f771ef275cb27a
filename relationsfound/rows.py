"""Steps on rows, and what comes of a program.

A step is its number and its value (its c, m or k; 0 where it has none), a program is a tuple of steps.
"""

MOST_NUMBERS = 40
FARTHEST = 1000000


def add_to_each(row, value):
    return [number + value for number in row]


def times_each(row, value):
    return [number * value for number in row]


def rest_of_each(row, value):
    return [number % value for number in row]


def without_signs(row, value):
    return [abs(number) for number in row]


def rising(row, value):
    return sorted(row)


def turned_round(row, value):
    return row[::-1]


def rotated(row, value):
    if not row:
        return row
    moved = value % len(row)
    return row[moved:] + row[:moved]


def first_ones(row, value):
    return row[:value]


def behind_first_ones(row, value):
    return row[value:]


def those_above(row, value):
    return [number for number in row if number > value]


def each_once(row, value):
    # A dict keeps the order in which its keys came.
    seen = {}
    for number in row:
        seen[number] = True
    return list(seen)


def sum_alone(row, value):
    return [sum(row)]


def greatest_alone(row, value):
    return [max(row)] if row else []


def least_alone(row, value):
    return [min(row)] if row else []


def count_alone(row, value):
    return [len(row)]


def differences(row, value):
    return [second - first for first, second in zip(row, row[1:])]


def running_sums(row, value):
    sums = []
    total = 0
    for number in row:
        total += number
        sums.append(total)
    return sums


def twice_over(row, value):
    return row + row


# At a step's number stands what it does.
STEPS = (
    add_to_each,
    times_each,
    rest_of_each,
    without_signs,
    rising,
    turned_round,
    rotated,
    first_ones,
    behind_first_ones,
    those_above,
    each_once,
    sum_alone,
    greatest_alone,
    least_alone,
    count_alone,
    differences,
    running_sums,
    twice_over,
)

# At a step's number stand the least and the greatest value that it may have; None, if it has no value.
STEP_VALUES = (
    (-99, 99),
    (-99, 99),
    (1, 9),
    None,
    None,
    None,
    (0, 9),
    (0, 9),
    (0, 9),
    (-99, 99),
    None,
    None,
    None,
    None,
    None,
    None,
    None,
    None,
)


def is_beyond(row):
    if len(row) > MOST_NUMBERS:
        return True
    return len(row) > 0 and (max(row) > FARTHEST or min(row) < -FARTHEST)


def run(program, row):
    """What comes of the last step; None, if what comes of any step is beyond."""
    for number, value in program:
        do_step = STEPS[number]
        row = do_step(row, value)
        if is_beyond(row):
            return None
    return row


def run_on_each(program, outcomes):
    """The runs on rows that may have no outcome themselves (None): then there's none here either."""
    return [None if row is None else run(program, row) for row in outcomes]
