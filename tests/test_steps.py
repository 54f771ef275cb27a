"""Each of the eighteen steps, seen through held.

No call answers a run's outcome itself. So the steps are an input's turning, and the outcome is asked for number
by number: how many there are, and what each one is.
"""

from tests.telling import (
    ABOVE, ABS, ADD, AS_MANY, COUNT, DROP, EQUAL, GREATEST, LEAST, ONCE, REST, REVERSE, ROTATE, SORT, STEPS, SUM,
    SUMS, TAKE, TIMES, TWICE, Case, ask, bound, held, relation, steps,
)

# How many numbers, all of them alike; and the steps that make the row of them that's told beside.
EMPTY = (0, 0, [])  # nothing
ONE = (1, 7, [])  # 7
MIXED = (5, 3, [SUMS, (REST, 7), (ADD, -3)])  # 0 3 -1 2 -2
ALIKE = (5, 2, [SUMS, (REST, 3), (ADD, -1)])  # 1 0 -1 1 0


class StepCase(Case):
    def assert_makes(self, expected, start, *tried):
        length, number, making = start
        turning = making + list(tried)
        held_calls = [self.part_is(length, turning + [COUNT], len(expected))]
        for place, part in enumerate(expected):
            held_calls.append(self.part_is(length, turning + [(DROP, place), (TAKE, 1)], part))
        answered = ask(bound(length, number, number), *held_calls)
        self.assertEqual([[1, 0, length, -1]] * len(held_calls), answered[1:])

    def part_is(self, length, turning, part):
        told = steps((TAKE, 0), SUM, (ADD, part))
        return held(relation([AS_MANY, length], steps(*turning), EQUAL, told))


class TheRowsThemselves(StepCase):
    def test_are_as_told_above(self):
        self.assert_makes([], EMPTY)
        self.assert_makes([7], ONE)
        self.assert_makes([0, 3, -1, 2, -2], MIXED)
        self.assert_makes([1, 0, -1, 1, 0], ALIKE)

    def test_a_wrong_outcome_would_be_seen(self):
        for wrong in ([], [8], [7, 7]):
            with self.assertRaises(AssertionError):
                self.assert_makes(wrong, ONE)


class EachNumber(StepCase):
    def test_add(self):
        self.assert_makes([4, 7, 3, 6, 2], MIXED, (ADD, 4))
        self.assert_makes([-92], ONE, (ADD, -99))
        self.assert_makes([99], EMPTY, SUM, (ADD, 99))
        self.assert_makes([], EMPTY, (ADD, 4))

    def test_times(self):
        self.assert_makes([0, -6, 2, -4, 4], MIXED, (TIMES, -2))
        self.assert_makes([0, 0, 0, 0, 0], MIXED, (TIMES, 0))
        self.assert_makes([], EMPTY, (TIMES, 3))

    def test_rest(self):
        self.assert_makes([0, 0, 2, 2, 1], MIXED, (REST, 3))
        self.assert_makes([0, 3, 8, 2, 7], MIXED, (REST, 9))
        self.assert_makes([0, 0, 0, 0, 0], MIXED, (REST, 1))
        self.assert_makes([], EMPTY, (REST, 3))

    def test_abs(self):
        self.assert_makes([0, 3, 1, 2, 2], MIXED, ABS)
        self.assert_makes([], EMPTY, ABS)


class Order(StepCase):
    def test_sort(self):
        self.assert_makes([-2, -1, 0, 2, 3], MIXED, SORT)
        self.assert_makes([-1, 0, 0, 1, 1], ALIKE, SORT)
        self.assert_makes([], EMPTY, SORT)

    def test_reverse(self):
        self.assert_makes([-2, 2, -1, 3, 0], MIXED, REVERSE)
        self.assert_makes([], EMPTY, REVERSE)

    def test_rotate(self):
        self.assert_makes([-1, 2, -2, 0, 3], MIXED, (ROTATE, 2))
        self.assert_makes([0, 3, -1, 2, -2], MIXED, (ROTATE, 0))
        self.assert_makes([7], ONE, (ROTATE, 3))
        self.assert_makes([], EMPTY, (ROTATE, 0))
        self.assert_makes([], EMPTY, (ROTATE, 9))

    def test_rotate_by_as_many_or_more(self):
        self.assert_makes([0, 3, -1, 2, -2], MIXED, (ROTATE, 5))
        self.assert_makes([3, -1, 2, -2, 0], MIXED, (ROTATE, 6))
        self.assert_makes([-2, 0, 3, -1, 2], MIXED, (ROTATE, 9))


class Some(StepCase):
    def test_take(self):
        self.assert_makes([0, 3], MIXED, (TAKE, 2))
        self.assert_makes([], MIXED, (TAKE, 0))
        self.assert_makes([0, 3, -1, 2, -2], MIXED, (TAKE, 5))
        self.assert_makes([0, 3, -1, 2, -2], MIXED, (TAKE, 9))
        self.assert_makes([], EMPTY, (TAKE, 3))

    def test_drop(self):
        self.assert_makes([-1, 2, -2], MIXED, (DROP, 2))
        self.assert_makes([0, 3, -1, 2, -2], MIXED, (DROP, 0))
        self.assert_makes([], MIXED, (DROP, 5))
        self.assert_makes([], MIXED, (DROP, 9))
        self.assert_makes([], EMPTY, (DROP, 3))

    def test_above(self):
        self.assert_makes([0, 3, 2], MIXED, (ABOVE, -1))
        self.assert_makes([], MIXED, (ABOVE, 3))
        self.assert_makes([0, 3, -1, 2, -2], MIXED, (ABOVE, -99))
        self.assert_makes([], EMPTY, (ABOVE, 0))

    def test_once(self):
        self.assert_makes([1, 0, -1], ALIKE, ONCE)
        self.assert_makes([0, 3, -1, 2, -2], MIXED, ONCE)
        self.assert_makes([], EMPTY, ONCE)


class OneNumber(StepCase):
    def test_sum(self):
        self.assert_makes([2], MIXED, SUM)
        self.assert_makes([0], EMPTY, SUM)

    def test_greatest(self):
        self.assert_makes([3], MIXED, GREATEST)
        self.assert_makes([-97], MIXED, (ADD, -98), (ADD, -2), GREATEST)
        self.assert_makes([], EMPTY, GREATEST)

    def test_least(self):
        self.assert_makes([-2], MIXED, LEAST)
        self.assert_makes([7], ONE, LEAST)
        self.assert_makes([], EMPTY, LEAST)

    def test_count(self):
        self.assert_makes([5], MIXED, COUNT)
        self.assert_makes([5], ALIKE, COUNT)
        self.assert_makes([0], EMPTY, COUNT)


class Neighbours(StepCase):
    def test_steps(self):
        self.assert_makes([3, -4, 3, -4], MIXED, STEPS)
        self.assert_makes([], ONE, STEPS)
        self.assert_makes([], EMPTY, STEPS)

    def test_sums(self):
        self.assert_makes([0, 3, 2, 4, 2], MIXED, SUMS)
        self.assert_makes([7], ONE, SUMS)
        self.assert_makes([], EMPTY, SUMS)

    def test_twice(self):
        self.assert_makes([0, 3, -1, 2, -2, 0, 3, -1, 2, -2], MIXED, TWICE)
        self.assert_makes([], EMPTY, TWICE)


class OneAfterTheOther(StepCase):
    def test_each_step_takes_what_came_of_the_one_before(self):
        self.assert_makes([-2, -1], MIXED, SORT, (TAKE, 2))
        self.assert_makes([0, 3], MIXED, (TAKE, 2), SORT)
        self.assert_makes([8], ONE, (ADD, 9), (REST, 9), (ADD, 1))

    def test_no_step_leaves_the_row(self):
        self.assert_makes([7], ONE)
        self.assert_makes([], EMPTY)
