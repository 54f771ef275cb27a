"""strongest: of the relations found those that follow from none of the others; point 2: -7."""

from tests.telling import (
    ADD, ALL_WAYS, ANY, AS_MANY, AT_LEAST, BAG, BEGINS, EQUAL, FOUND, HAS, LONG, MOST, NOT_BELOW, NOT_TWICE, NUMBERS,
    REVERSE, RISING, ROTATE, SORT, STRONGEST, SUM, TAKE, Case, ask, bound, family, program, several, steps,
)

NOTHING = steps()
ONE_TURNING = several(NOTHING)
SMALL = bound(2, 0, 1)


class StrongestCase(Case):
    def assert_strongest(self, expected, *calls):
        self.assert_answers([len(expected)] + expected, *calls, STRONGEST)


class Strongest(StrongestCase):
    def test_one_from_which_all_follow(self):
        self.assert_strongest([0], SMALL, family(several(ANY), ONE_TURNING, ONE_TURNING, ALL_WAYS))

    def test_it_may_stand_behind_them(self):
        ways = several(LONG, BEGINS, AT_LEAST, MOST, NUMBERS, BAG, EQUAL)
        self.assert_strongest([6], SMALL, family(several(ANY), ONE_TURNING, ONE_TURNING, ways))

    def test_ways_that_do_not_follow_from_one_another(self):
        ways = several(NUMBERS, MOST, AT_LEAST, BEGINS)
        self.assert_strongest([0, 1, 2, 3], SMALL, family(several(ANY), ONE_TURNING, ONE_TURNING, ways))

    def test_what_follows_from_one_of_them_only(self):
        # long follows from bag, most and least, but not from numbers or begins; numbers follows from bag alone.
        ways = several(LONG, NUMBERS, BEGINS, BAG)
        self.assert_strongest([2, 3], SMALL, family(several(ANY), ONE_TURNING, ONE_TURNING, ways))
        ways = several(LONG, NUMBERS, BEGINS, MOST)
        self.assert_strongest([1, 2, 3], SMALL, family(several(ANY), ONE_TURNING, ONE_TURNING, ways))
        ways = several(LONG, NUMBERS, BEGINS, AT_LEAST)
        self.assert_strongest([1, 2, 3], SMALL, family(several(ANY), ONE_TURNING, ONE_TURNING, ways))

    def test_only_what_is_found_counts(self):
        # The row turned round: it isn't equal, though all the others would follow from that.
        told = family(several(ANY), several(steps(REVERSE)), ONE_TURNING, ALL_WAYS)
        self.assertEqual([[7], [7], [3, 1, 2, 6], [1, 1]], ask(SMALL, told, FOUND, STRONGEST))

    def test_it_asks_for_the_program(self):
        told = family(several(ANY), several(steps(REVERSE)), ONE_TURNING, ALL_WAYS)
        self.assert_strongest([0], SMALL, told, program(steps(SORT)))

    def test_it_asks_for_the_bound(self):
        told = family(several(ANY), several(steps(REVERSE)), ONE_TURNING, ALL_WAYS)
        self.assert_strongest([0], bound(1, 0, 1), told)

    def test_the_wider_condition(self):
        told = family(several(RISING, ANY, HAS), ONE_TURNING, ONE_TURNING, several(EQUAL))
        self.assert_strongest([1], SMALL, told)

    def test_the_least_of_so_many(self):
        told = family(several([AS_MANY, 2], [AS_MANY, 1], [AS_MANY, 2]), ONE_TURNING, ONE_TURNING, several(EQUAL))
        self.assert_strongest([1], SMALL, told)

    def test_a_wider_condition_that_is_not_found(self):
        # A row and the same row sorted are equal, if it's rising; not so any row.
        told = family(several(ANY, RISING), several(steps(SORT)), ONE_TURNING, several(EQUAL, BAG, LONG))
        # any: bag 1, long 2; rising: equal 3, bag 4, long 5.
        self.assertEqual([[7], [6], [5, 1, 2, 3, 4, 5], [2, 1, 3]], ask(SMALL, told, FOUND, STRONGEST))

    def test_conditions_that_do_not_follow_from_one_another(self):
        told = family(several(RISING, NOT_BELOW, NOT_TWICE), ONE_TURNING, ONE_TURNING, several(EQUAL, LONG))
        self.assert_strongest([0, 2, 4], SMALL, told)

    def test_other_turnings(self):
        inputs = several(NOTHING, steps(REVERSE))
        outputs = several(NOTHING, steps((ROTATE, 1)))
        told = family(several(ANY), inputs, outputs, several(LONG, BAG))
        self.assert_strongest([1, 3, 5, 7], SMALL, told)

    def test_none_found(self):
        self.assert_strongest([], SMALL, family(several([AS_MANY, 9]), ONE_TURNING, ONE_TURNING, ALL_WAYS))
        told = family(several(ANY), several(steps((ADD, 1))), ONE_TURNING, several(EQUAL, BAG))
        self.assert_strongest([], SMALL, told)

    def test_a_family_that_has_nothing(self):
        self.assert_strongest([])
        self.assert_strongest([], SMALL, family(several(ANY), [0], ONE_TURNING, ALL_WAYS))

    def test_one_found(self):
        self.assert_strongest([6], SMALL, family(several(ANY), several(steps((ADD, 1))), several(steps((ADD, 2))),
                                                 several(EQUAL, BAG, NUMBERS, AT_LEAST, BEGINS, EQUAL, LONG)))

    def test_as_many_as_there_may_be(self):
        conditions = several(RISING, NOT_BELOW, NOT_TWICE)
        turnings = several(*[steps((TAKE, 0), (TAKE, count)) for count in range(4)])
        told = family(conditions, turnings, turnings, several(NUMBERS, MOST, AT_LEAST, BEGINS))
        self.assert_strongest(list(range(192)), SMALL, program(steps((TAKE, 0))), told)


class OfTwoThatFollowFromEachOther(StrongestCase):
    def test_any_and_none_or_more(self):
        for conditions in (several(ANY, [AS_MANY, 0]), several([AS_MANY, 0], ANY)):
            self.assert_strongest([0], SMALL, family(conditions, ONE_TURNING, ONE_TURNING, several(EQUAL)))

    def test_has_numbers_and_one_or_more(self):
        for conditions in (several(HAS, [AS_MANY, 1]), several([AS_MANY, 1], HAS)):
            self.assert_strongest([0], SMALL, family(conditions, ONE_TURNING, ONE_TURNING, several(EQUAL)))

    def test_neither_counts_if_another_one_is_stronger(self):
        conditions = several(HAS, [AS_MANY, 1], ANY)
        self.assert_strongest([2], SMALL, family(conditions, ONE_TURNING, ONE_TURNING, several(EQUAL)))
        conditions = several(HAS, [AS_MANY, 0], [AS_MANY, 1])
        self.assert_strongest([1], SMALL, family(conditions, ONE_TURNING, ONE_TURNING, several(EQUAL)))

    def test_a_condition_told_twice(self):
        told = family(several(RISING, NOT_BELOW, RISING), ONE_TURNING, ONE_TURNING, several(EQUAL))
        self.assert_strongest([0, 1], SMALL, told)

    def test_a_condition_told_three_times(self):
        told = family(several(RISING, RISING, RISING), ONE_TURNING, ONE_TURNING, several(LONG, EQUAL))
        self.assert_strongest([1], SMALL, told)

    def test_a_way_told_twice(self):
        told = family(several(ANY), ONE_TURNING, ONE_TURNING, several(LONG, MOST, BEGINS, MOST, BEGINS))
        self.assert_strongest([1, 2], SMALL, told)

    def test_an_input_turning_told_twice(self):
        inputs = several(NOTHING, steps((TAKE, 9)), NOTHING)
        told = family(several(ANY), inputs, ONE_TURNING, several(LONG, EQUAL))
        self.assert_strongest([1, 3], SMALL, told)

    def test_an_output_turning_told_twice(self):
        outputs = several(steps((TAKE, 9)), NOTHING, steps((TAKE, 9)))
        told = family(several(ANY), ONE_TURNING, outputs, several(LONG, EQUAL))
        self.assert_strongest([1, 3], SMALL, told)

    def test_a_turning_told_twice_of_which_not_all_is_found(self):
        inputs = several(steps(SORT), steps(SORT))
        told = family(several(RISING, NOT_TWICE), inputs, ONE_TURNING, several(EQUAL, BAG))
        # sort: rising, equal 0, bag 1; none twice, bag 3; the same again from 4.
        self.assertEqual([[7], [8], [6, 0, 1, 3, 4, 5, 7], [2, 0, 3]], ask(SMALL, told, FOUND, STRONGEST))

    def test_all_told_as_often_as_may_be(self):
        turnings = several(*[steps((ADD, 1))] * 4)
        told = family(several(ANY, ANY, ANY), turnings, turnings, several(*[LONG] * 6, EQUAL))
        self.assert_strongest([6], SMALL, told)


class TooManyInputs(Case):
    TOLD = family(several(ANY), ONE_TURNING, ONE_TURNING, ALL_WAYS)

    def test_one_hundred_and_fifty_are_not_too_many(self):
        self.assertEqual([[150], [7], [1, 0]], ask(bound(1, -49, 99), self.TOLD, STRONGEST))

    def test_one_more_is_too_many(self):
        self.assertEqual([[151], [7], [-7]], ask(bound(1, -50, 99), self.TOLD, STRONGEST))
        self.assertEqual([[1483], [7], [-7]], ask(bound(2, 1, 38), self.TOLD, STRONGEST))

    def test_though_the_family_has_nothing(self):
        self.assert_refused(-7, bound(1, -50, 99), STRONGEST)

    def test_it_changes_nothing(self):
        answered = ask(bound(1, -50, 99), self.TOLD, program(steps(SUM)), STRONGEST, bound(1, 0, 0), STRONGEST)
        self.assertEqual([[151], [7], [1], [-7], [2], [1, 0]], answered)
