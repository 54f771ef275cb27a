"""Runs that are beyond, just within and just outside."""

from tests.telling import (
    ABS, ADD, DROP, EQUAL, KEPT, LONG, OFF, REST, SUM, SUMS, TAKE, TIMES, TWICE, Case, at_one_row, steps,
)

NOTHING = steps()
# 50 times 50 times 50 times 8 is 1000000.
MILLION = ((TIMES, 50), (TIMES, 50), (TIMES, 50), (TIMES, 8))
MINUS_MILLION = ((TIMES, 50), (TIMES, 50), (TIMES, 50), (TIMES, -8))


class Beyond(Case):
    def assert_turns(self, expected, length, number, *turning):
        told = steps(*turning)
        self.assertEqual(expected, at_one_row(length, number, NOTHING, told, EQUAL, told))

    def test_forty_numbers_are_not_beyond(self):
        self.assert_turns(KEPT, 5, 1, TWICE, TWICE, TWICE)

    def test_more_than_forty_numbers_are_beyond(self):
        self.assert_turns(OFF, 6, 1, TWICE, TWICE, TWICE)
        # Only twice makes a row longer, so 42 is the next number of numbers that there can be.
        self.assert_turns(KEPT, 6, 1, TWICE, TWICE, (DROP, 3))
        self.assert_turns(OFF, 6, 1, TWICE, TWICE, (DROP, 3), TWICE)
        self.assert_turns(KEPT, 6, 1, TWICE, TWICE, (DROP, 4), TWICE)

    def test_a_million_is_not_beyond(self):
        self.assert_turns(KEPT, 1, 1, *MILLION)
        self.assert_turns(KEPT, 1, 1, *MINUS_MILLION)

    def test_one_more_is_beyond(self):
        self.assert_turns(OFF, 1, 1, *MILLION, (ADD, 1))
        self.assert_turns(OFF, 1, 1, *MINUS_MILLION, (ADD, -1))

    def test_one_number_of_several_is_enough(self):
        # 1 2 becomes 1000000 and 2000000, -2 -1 just so below 0.
        self.assert_turns(OFF, 2, 1, SUMS, *MILLION)
        self.assert_turns(OFF, 2, 1, SUMS, (ADD, -3), *MILLION)
        self.assert_turns(OFF, 2, 1, SUMS, (ADD, -3), *MINUS_MILLION)

    def test_a_sum_may_be_beyond(self):
        self.assert_turns(OFF, 2, 1, *MILLION, SUM)
        self.assert_turns(OFF, 2, 1, *MILLION, SUMS)
        self.assert_turns(KEPT, 1, 1, *MILLION, SUM)

    def test_beyond_in_the_middle_stays_beyond(self):
        self.assert_turns(OFF, 6, 1, TWICE, TWICE, TWICE, (TAKE, 0))
        self.assert_turns(OFF, 1, 1, *MILLION, (ADD, 1), (ADD, -1))
        self.assert_turns(OFF, 1, 1, *MILLION, (ADD, 1), (TIMES, 0))
        self.assert_turns(OFF, 1, 1, *MINUS_MILLION, (ADD, -1), (REST, 9))
        self.assert_turns(OFF, 1, 1, *MINUS_MILLION, (ADD, -1), ABS, (TAKE, 0))

    def test_beyond_in_the_middle_of_the_program(self):
        ran = steps(TWICE, TWICE, TWICE, (TAKE, 1))
        self.assertEqual(OFF, at_one_row(6, 1, ran, NOTHING, LONG, NOTHING))
        self.assertEqual(KEPT, at_one_row(5, 1, ran, NOTHING, LONG, NOTHING))
