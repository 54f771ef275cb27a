"""Conditions, how rows stand, and when a relation is kept, broken or off."""

from tests.telling import (
    ADD, ALL_WAYS, ANY, AS_MANY, AT_LEAST, BAG, BEGINS, BROKEN, DROP, EQUAL, FOUND, HAS, KEPT, LONG, MOST,
    NOT_BELOW, NOT_TWICE, NUMBERS, OFF, REVERSE, RISING, SORT, SUM, SUMS, TAKE, TIMES, TWICE, Case,
    at_one_row, bound, family, held, last, program, relation, several, steps,
)

NOTHING = steps()


class Conditions(Case):
    def fitting(self, told_bound, *condition):
        """At how many inputs the condition is so: an input stands equal to itself."""
        answer = last(told_bound, held(relation(list(condition), NOTHING, EQUAL, NOTHING)))
        self.assertEqual([0, -1], [answer[1], answer[3]])
        return answer[0], answer[2]

    def first_fitting(self, told_bound, *condition):
        """The first input at which the condition is so: no row is as long as itself with one number more."""
        longer = steps(TWICE, SUM, TWICE)
        shorter = steps((TAKE, 0))
        return last(told_bound, held(relation(list(condition), longer, LONG, shorter)))[3]

    def test_any(self):
        self.assertEqual((13, 0), self.fitting(bound(2, -1, 1), ANY))
        self.assertEqual((1, 0), self.fitting(bound(0, 0, 0), ANY))

    def test_has_numbers(self):
        self.assertEqual((12, 1), self.fitting(bound(2, -1, 1), HAS))
        self.assertEqual((0, 1), self.fitting(bound(0, 0, 0), HAS))
        self.assertEqual(1, self.first_fitting(bound(2, -1, 1), HAS))

    def test_rising(self):
        # Of 15 rows of up to three numbers 0 and 1 those with 1 0 within them are not.
        self.assertEqual((10, 5), self.fitting(bound(3, 0, 1), RISING))
        self.assertEqual((10, 3), self.fitting(bound(2, -1, 1), RISING))

    def test_neighbours_that_are_alike_are_rising(self):
        self.assertEqual((9, 0), self.fitting(bound(8, 5, 5), RISING))

    def test_none_below_zero(self):
        self.assertEqual((7, 6), self.fitting(bound(2, -1, 1), NOT_BELOW))
        self.assertEqual((3, 0), self.fitting(bound(2, 0, 0), NOT_BELOW))
        self.assertEqual((1, 2), self.fitting(bound(2, -1, -1), NOT_BELOW))

    def test_none_twice(self):
        self.assertEqual((10, 3), self.fitting(bound(2, -1, 1), NOT_TWICE))
        self.assertEqual((5, 10), self.fitting(bound(3, 0, 1), NOT_TWICE))
        self.assertEqual((2, 7), self.fitting(bound(8, 5, 5), NOT_TWICE))

    def test_as_many_or_more(self):
        for least_count, expected in ((0, (13, 0)), (1, (12, 1)), (2, (9, 4)), (3, (0, 13)), (9, (0, 13))):
            self.assertEqual(expected, self.fitting(bound(2, -1, 1), AS_MANY, least_count))
        self.assertEqual((1, 8), self.fitting(bound(8, 5, 5), AS_MANY, 8))
        self.assertEqual((0, 9), self.fitting(bound(8, 5, 5), AS_MANY, 9))
        self.assertEqual(4, self.first_fitting(bound(2, -1, 1), AS_MANY, 2))

    def test_the_condition_is_on_the_input_and_not_on_what_is_turned(self):
        turned = steps((ADD, -9))
        self.assert_answers([3, 0, 0, -1], bound(2, 1, 1), held(relation(NOT_BELOW, turned, EQUAL, turned)))
        self.assert_answers([1, 0, 2, -1], bound(2, -1, -1), program(steps((ADD, 9))),
                            held(relation(NOT_BELOW, steps((ADD, 9)), EQUAL, steps((ADD, 9)))))


class HowRowsStand(Case):
    """The rows are made of 1 1, the one input that has two numbers."""

    MADE = {
        (): steps((TAKE, 0)),
        (1,): steps((TAKE, 1)),
        (2,): steps(SUM),
        (1, 1): NOTHING,
        (1, 2): steps(SUMS),
        (2, 1): steps(SUMS, REVERSE),
        (1, 3): steps(SUMS, SUMS),
        (2, 2): steps((TIMES, 2)),
        (1, 2, 1): steps(SUMS, TWICE, (TAKE, 3)),
        (2, 1, 2): steps(SUMS, TWICE, (DROP, 1)),
    }

    def assert_stand(self, left, right, *ways):
        answer = last(
            bound(2, 1, 1),
            family(several([AS_MANY, 2]), several(self.MADE[left]), several(self.MADE[right]), ALL_WAYS),
            FOUND,
        )
        self.assertEqual([len(ways)] + list(ways), answer)

    def test_the_same_row_stands_in_all_ways(self):
        for same in ((), (1,), (1, 2), (2, 1, 2)):
            self.assert_stand(same, same, EQUAL, BAG, NUMBERS, MOST, AT_LEAST, BEGINS, LONG)

    def test_another_order(self):
        self.assert_stand((1, 2), (2, 1), BAG, NUMBERS, LONG)
        self.assert_stand((2, 1), (1, 2), BAG, NUMBERS, LONG)

    def test_the_same_numbers_not_as_often(self):
        self.assert_stand((1, 1), (1,), NUMBERS)
        self.assert_stand((1, 2, 1), (2, 1, 2), NUMBERS, LONG)
        self.assert_stand((1, 2, 1), (2, 1), NUMBERS)

    def test_numbers_goes_both_ways(self):
        self.assert_stand((1,), (2, 1))
        self.assert_stand((2, 1), (1,))

    def test_most(self):
        self.assert_stand((1, 1), (1, 2), MOST, LONG)
        self.assert_stand((1, 1), (2, 2), MOST, LONG)
        self.assert_stand((1,), (2,), MOST, LONG)

    def test_least(self):
        self.assert_stand((1, 2), (1, 1), AT_LEAST, LONG)
        self.assert_stand((2, 2), (1, 1), AT_LEAST, LONG)

    def test_neither_most_nor_least(self):
        self.assert_stand((1, 3), (2, 2), LONG)
        self.assert_stand((2, 2), (1, 3), LONG)

    def test_most_and_least_ask_for_as_many(self):
        self.assert_stand((2,), (1, 3))
        self.assert_stand((2, 2), (1,))
        self.assert_stand((1, 3), (2,))

    def test_begins(self):
        self.assert_stand((1,), (1, 2), BEGINS)
        self.assert_stand((1, 2), (1, 2, 1), NUMBERS, BEGINS)
        self.assert_stand((1, 2), (1,))
        self.assert_stand((2,), (1, 2))

    def test_the_row_without_numbers(self):
        self.assert_stand((), (1,), BEGINS)
        self.assert_stand((1,), ())


class Sides(Case):
    def test_left_is_the_program_on_the_turned_input(self):
        # The program's sums of 5 and 5: turned ahead 6 12, turned behind 6 11.
        ran, turned = steps(SUMS), steps((ADD, 1))
        for way, expected in ((EQUAL, BROKEN), (AT_LEAST, KEPT), (MOST, BROKEN), (LONG, KEPT)):
            self.assertEqual(expected, at_one_row(2, 5, ran, turned, way, turned))

    def test_right_is_what_the_program_makes_turned(self):
        # The program takes one of 5 and 5: turned ahead that's still one, turned behind it's two.
        ran, turned = steps((TAKE, 1)), steps(TWICE)
        self.assertEqual(KEPT, at_one_row(2, 5, ran, turned, EQUAL, NOTHING))
        self.assertEqual(BROKEN, at_one_row(2, 5, ran, NOTHING, EQUAL, turned))
        self.assertEqual(KEPT, at_one_row(2, 5, ran, NOTHING, BEGINS, turned))

    def test_the_left_one_stands_to_the_right_one(self):
        self.assertEqual(KEPT, at_one_row(2, 5, NOTHING, NOTHING, BEGINS, steps(TWICE)))
        self.assertEqual(BROKEN, at_one_row(2, 5, NOTHING, steps(TWICE), BEGINS, NOTHING))

    def test_kept_broken_and_off_at_once(self):
        # Off at the row without numbers; sorted rows are kept, 0 -1, 1 -1 and 1 0 are broken.
        self.assert_answers([9, 3, 1, 7], bound(2, -1, 1), held(relation(HAS, steps(SORT), EQUAL, NOTHING)))

    def test_the_first_broken_one_is_told(self):
        self.assert_answers([1, 12, 0, 1], bound(2, -1, 1), held(relation(ANY, steps((ADD, 1)), EQUAL, NOTHING)))
        self.assert_answers([0, 1, 0, 0], held(relation(ANY, steps(SUM), EQUAL, NOTHING)))


class Off(Case):
    def test_the_condition_is_not_so(self):
        self.assert_answers([0, 0, 1, -1], held(relation(HAS, NOTHING, EQUAL, NOTHING)))

    def test_an_off_relation_would_else_be_broken(self):
        self.assert_answers([0, 0, 1, -1], held(relation(HAS, steps(SUM), EQUAL, NOTHING)))

    def test_the_program_on_the_input(self):
        # On what's turned, and behind it, nothing is beyond.
        ran = steps(TWICE, TWICE, TWICE)
        self.assertEqual(OFF, at_one_row(6, 1, ran, steps((TAKE, 0)), EQUAL, steps((TAKE, 0))))
        self.assertEqual(KEPT, at_one_row(5, 1, ran, steps((TAKE, 0)), EQUAL, steps((TAKE, 0))))

    def test_the_input_turning(self):
        ran = steps((TAKE, 0))
        self.assertEqual(OFF, at_one_row(6, 1, ran, steps(TWICE, TWICE, TWICE), EQUAL, NOTHING))
        self.assertEqual(KEPT, at_one_row(5, 1, ran, steps(TWICE, TWICE, TWICE), EQUAL, NOTHING))

    def test_the_program_on_what_is_turned(self):
        ran = steps(TWICE, TWICE, (TAKE, 0))
        self.assertEqual(OFF, at_one_row(6, 1, ran, steps(TWICE), EQUAL, NOTHING))
        self.assertEqual(KEPT, at_one_row(5, 1, ran, steps(TWICE), EQUAL, NOTHING))

    def test_the_output_turning(self):
        turned = steps(TWICE, TWICE, TWICE, (TAKE, 0))
        self.assertEqual(OFF, at_one_row(6, 1, NOTHING, steps((TAKE, 0)), EQUAL, turned))
        self.assertEqual(KEPT, at_one_row(5, 1, NOTHING, steps((TAKE, 0)), EQUAL, turned))
