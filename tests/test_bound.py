"""Point 1: what is taken as a bound; and its inputs in their order."""

from tests.telling import (
    ABOVE, ABS, ADD, ANY, AS_MANY, EQUAL, GREAT, LONG, SUM, SUMS, TAKE, Case, ask, bound, held, last, relation, steps,
)

NOTHING = steps()
ALWAYS_KEPT = held(relation(ANY, NOTHING, EQUAL, NOTHING))


class Told(Case):
    def test_bounds(self):
        for told, count in (
            ((0, 0, 0), 1),
            ((0, -99, 99), 1),
            ((1, -99, 99), 200),
            ((2, -1, 1), 13),
            ((8, 0, 1), 511),
            ((8, 99, 99), 9),
            ((8, -99, -99), 9),
            ((3, -5, 5), 1464),
        ):
            with self.subTest(told):
                self.assert_answers([count], bound(*told))

    def test_as_near_as_can_be_to_the_most_inputs(self):
        # Of all bounds these have the most inputs that are taken, and the fewest that aren't.
        self.assert_answers([1483], bound(2, 1, 38))
        self.assert_refused(-1, bound(4, 1, 6))  # 1555
        self.assert_refused(-1, bound(2, 1, 39))  # 1561
        self.assert_refused(-1, bound(3, 1, 12))  # 1885
        self.assert_refused(-1, bound(8, -99, 99))

    def test_length_within_and_outside(self):
        self.assert_answers([1], bound(0, 3, 3))
        self.assert_answers([9], bound(8, 3, 3))
        self.assert_refused(-1, bound(-1, 3, 3))
        self.assert_refused(-1, bound(9, 3, 3))

    def test_numbers_within_and_outside(self):
        self.assert_answers([3], bound(1, -99, -98))
        self.assert_refused(-1, bound(1, -100, -98))
        self.assert_refused(-1, bound(0, -100, 0))
        self.assert_answers([3], bound(1, 98, 99))
        self.assert_refused(-1, bound(1, 98, 100))
        self.assert_refused(-1, bound(0, 0, 100))
        self.assert_refused(-1, bound(1, 100, 100))
        self.assert_refused(-1, bound(1, -100, -100))

    def test_the_first_number_is_not_above_the_second(self):
        self.assert_answers([2], bound(1, 5, 5))
        self.assert_refused(-1, bound(1, 5, 4))
        self.assert_refused(-1, bound(0, 1, 0))

    def test_great_numbers(self):
        for great in (GREAT, -GREAT):
            self.assert_refused(-1, bound(great, 0, 0))
            self.assert_refused(-1, bound(1, great, 0))
            self.assert_refused(-1, bound(1, 0, great))
            self.assert_refused(-1, bound(great, great, great))

    def test_it_is_the_bound_from_now_on(self):
        self.assertEqual([[13], [13, 0, 0, -1], [3], [3, 0, 0, -1]],
                         ask(bound(2, -1, 1), ALWAYS_KEPT, bound(2, 4, 4), ALWAYS_KEPT))

    def test_a_refusal_leaves_the_bound(self):
        for told in ((9, 3, 3), (-1, 3, 3), (1, 5, 4), (1, -100, 0), (1, 0, 100), (4, 1, 6), (GREAT, 0, 0)):
            with self.subTest(told):
                self.assertEqual([[13], [-1], [13, 0, 0, -1]], ask(bound(2, -1, 1), bound(*told), ALWAYS_KEPT))


class Order(Case):
    def broken_at(self, told_bound, length, code):
        """The number of the one input as long whose code is this: there the left side has no number, else one.

        A row's code is the sum of the sums of its sums: 3 times the first number and the second one, of two;
        6 times the first one, 3 times the second one and the third one, of three.
        """
        left = steps(SUMS, SUMS, SUM, (ADD, -code), ABS, (ABOVE, 0))
        answer = last(told_bound, held(relation([AS_MANY, length], left, LONG, steps((TAKE, 0), SUM))))
        self.assertEqual(1, answer[1])
        return answer[3]

    def test_of_two_numbers_by_the_first_one_then_by_the_second_one(self):
        # -1 -1, -1 0, -1 1, 0 -1, 0 0, 0 1, 1 -1, 1 0, 1 1
        told = bound(2, -1, 1)
        self.assertEqual(list(range(4, 13)), [self.broken_at(told, 2, code) for code in range(-4, 5)])

    def test_of_three_numbers(self):
        # 0 0 0, 0 0 1, 0 1 0, 0 1 1, 1 0 0, 1 0 1, 1 1 0, 1 1 1
        told = bound(3, 0, 1)
        codes = (0, 1, 3, 4, 6, 7, 9, 10)
        self.assertEqual(list(range(7, 15)), [self.broken_at(told, 3, code) for code in codes])

    def test_shorter_ones_first(self):
        told = bound(2, -1, 1)
        for least_count, first in ((0, 0), (1, 1), (2, 4)):
            asked = held(relation([AS_MANY, least_count], steps(SUM), LONG, steps((TAKE, 0))))
            self.assertEqual(first, last(told, asked)[3])

    def test_single_numbers_rise_from_the_first_to_the_second(self):
        # A number above c stays: with one number only that makes the row broken.
        for above, first in ((-4, 1), (-3, 2), (-1, 4), (1, 6)):
            asked = held(relation(ANY, steps((ABOVE, above)), LONG, steps((TAKE, 0))))
            self.assertEqual(first, last(bound(1, -3, 2), asked)[3])
