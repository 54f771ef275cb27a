"""Calls told as numbers, and what they answer, call by call: the one helper of all tests."""

import unittest

from relationsfound.finding import answers

(ADD, TIMES, REST, ABS, SORT, REVERSE, ROTATE, TAKE, DROP, ABOVE, ONCE, SUM, GREATEST, LEAST, COUNT, STEPS, SUMS,
 TWICE) = range(18)
ANY, HAS, RISING, NOT_BELOW, NOT_TWICE, AS_MANY = range(6)
EQUAL, BAG, NUMBERS, MOST, AT_LEAST, BEGINS, LONG = range(7)
ALL_WAYS = [7, 0, 1, 2, 3, 4, 5, 6]
GREAT = 10 ** 18

# What held answers, if one input alone isn't off for its length.
KEPT, BROKEN, OFF = "kept", "broken", "off"

# The least and the greatest value of each step that has one.
IN_RANGE = {0: (-99, 99), 1: (-99, 99), 2: (1, 9), 6: (0, 9), 7: (0, 9), 8: (0, 9), 9: (-99, 99)}

# Each way in which numbers aren't whole a program.
NOT_PROGRAMS = {
    "an empty list": [],
    "no step behind how many": [1],
    "a step too few": [2, SORT],
    "no value behind the step": [1, ADD],
    "no value behind the last step": [2, SORT, ADD],
    "a step too many": [1, SORT, SORT],
    "a number left over behind no step": [0, 0],
    "a value behind a step that has none": [1, SORT, 1],
    "fewer than none": [-1],
    "nine steps": [9] + [SORT] * 9,
    "more steps than can be": [GREAT],
    "fewer steps than can be": [-GREAT],
    "a step below the first one": [1, -1],
    "a step behind the last one": [1, 18],
    "a step with a great number": [1, GREAT],
    "a step with a number far below": [1, -GREAT],
    "a great value": [1, ADD, GREAT],
    "a value far below": [1, ADD, -GREAT],
    "a second step that isn't there": [2, SORT, 18],
    "thirty numbers": [8] + [SORT] * 29,
}


def flat(things):
    numbers = []
    for thing in things:
        numbers.extend([thing] if isinstance(thing, int) else thing)
    return numbers


def several(*things):
    """Things (a step, a program, a condition, a way) with how many they are ahead."""
    return [len(things)] + flat(things)


def steps(*told):
    """A program: each step a number, or a tuple with its value."""
    return several(*told)


def relation(condition, input_turning, way, output_turning):
    return flat([condition, input_turning, way, output_turning])


def row(numbers):
    return [len(numbers)] + list(numbers)


def program(numbers):
    return [0] + row(numbers)


def bound(length, first, second):
    return [1, length, first, second]


def family(conditions, inputs, outputs, ways):
    return [2] + row(conditions) + row(inputs) + row(outputs) + row(ways)


def others(numbers):
    return [3] + row(numbers)


def held(numbers):
    return [4] + row(numbers)


FOUND = [5]
STRONGEST = [6]
LEAST_SET = [11]


def tell(number):
    """The call relation."""
    return [7, number]


def says(stronger, weaker):
    return [8, stronger, weaker]


def follows(numbers, asked):
    return [9, asked] + row(numbers)


def by(other, asked):
    return [10, other, asked]


def ask(*calls):
    """What each call answers, on one object."""
    given = answers(flat(calls))
    apart = []
    while given:
        count = given[0]
        apart.append(given[1:1 + count])
        if len(apart[-1]) != count:
            raise AssertionError(f"{count} numbers are said to be answered, {apart[-1]} are")
        given = given[1 + count:]
    if len(apart) != len(calls):
        raise AssertionError(f"{len(calls)} calls, {len(apart)} answers")
    return apart


def last(*calls):
    return ask(*calls)[-1]


class Case(unittest.TestCase):
    def assert_answers(self, expected, *calls):
        self.assertEqual(expected, last(*calls))

    def assert_refused(self, refusal, *calls):
        self.assert_answers([refusal], *calls)


def at_one_row(length, number, ran, input_turning, way, output_turning):
    """Whether a relation is kept, broken or off at the row of so many times this number.

    The shorter rows of the bound don't count, by the condition.
    """
    answer = last(
        bound(length, number, number),
        program(ran),
        held(relation([AS_MANY, length], input_turning, way, output_turning)),
    )
    return {
        (1, 0, length, -1): KEPT,
        (0, 1, length, length): BROKEN,
        (0, 0, length + 1, -1): OFF,
    }[tuple(answer)]


def behind_four(*calls):
    """What calls answer, behind a family of four relations all of which the program holds.

    The relations say that what comes out is rising (0), that no number stands in it twice (1), that none is below 0
    (2), that there are up to three (3). What comes out of the program is always the row without numbers.
    """
    outputs = several(steps(SORT), steps(ONCE), steps(ABS), steps((TAKE, 3)))
    told = [
        program(steps((TAKE, 0))),
        bound(4, 0, 1),
        family(several(ANY), several(steps()), outputs, several(EQUAL)),
    ]
    return ask(*told, *calls)[len(told):]


# Programs by which of these four relations they don't hold.
THAT_MISSES = {
    (): steps(COUNT),
    (0,): steps(ONCE),
    (1,): steps(SORT, (TAKE, 3)),
    (2,): steps(SUM, (ADD, -1)),
    (3,): steps((ADD, 1), SUMS),
    (0, 1): steps((TAKE, 3)),
    (0, 2): steps(ONCE, (ADD, -1)),
    (0, 3): steps((ADD, 1), SUMS, REVERSE),
    (1, 2): steps(SORT, (TAKE, 3), (ADD, -1)),
    (1, 3): steps(SORT),
    (2, 3): steps((ADD, 1), SUMS, (ADD, -2)),
    (0, 1, 2): steps((TAKE, 3), (ADD, -1)),
    (0, 1, 3): steps(),
    (0, 2, 3): steps((ADD, 1), SUMS, REVERSE, (ADD, -2)),
    (1, 2, 3): steps(SORT, (ADD, -1)),
    (0, 1, 2, 3): steps((ADD, -1)),
}


def others_that_miss(*missed):
    """Other programs, each told by which of the four relations it doesn't hold."""
    return others(several(*[THAT_MISSES[numbers] for numbers in missed]))
