"""least: the fewest of the strongest relations that still tell the others apart; points 2 and 4: -7, -6."""

from tests.telling import (
    ABOVE, ADD, ALL_WAYS, ANY, AS_MANY, EQUAL, FOUND, HAS, LEAST_SET, LONG, MOST, NUMBERS, REVERSE, SORT, STEPS,
    STRONGEST, SUM, TAKE, THAT_MISSES, TIMES, Case, ask, behind_four, bound, by, family, others, others_that_miss,
    program, several, steps,
)

NOTHING = steps()
ONE_TURNING = several(NOTHING)


class Least(Case):
    """All four relations are strongest, as their turnings aren't the same."""

    def assert_least(self, expected, *missed):
        answered = behind_four(STRONGEST, others_that_miss(*missed), LEAST_SET)
        self.assertEqual([[4, 0, 1, 2, 3], [len(missed)], [len(expected)] + expected], answered)

    def test_no_other_programs(self):
        self.assert_least([])
        self.assertEqual([[0]], behind_four(LEAST_SET))

    def test_others_that_hold_all(self):
        self.assert_least([], ())
        self.assert_least([], (), (), ())

    def test_the_program_itself_among_the_others(self):
        itself = steps((TAKE, 0))
        self.assertEqual([[1], [0]], behind_four(others(several(itself)), LEAST_SET))
        self.assertEqual([[2], [1, 2]], behind_four(others(several(itself, THAT_MISSES[(2,)])), LEAST_SET))

    def test_one(self):
        for missed in range(4):
            self.assert_least([missed], (missed,))

    def test_the_first_one_that_tells(self):
        self.assert_least([0], (0, 1, 2, 3))
        self.assert_least([1], (1, 2, 3))
        self.assert_least([2], (2, 3))
        self.assert_least([2], (2, 3), (2, 3))

    def test_one_for_several_programs(self):
        self.assert_least([1], (0, 1), (1, 2))
        self.assert_least([3], (0, 3), (1, 3), (2, 3))
        self.assert_least([3], (0, 1, 3), (2, 3), (3,))
        self.assert_least([1], (0, 1), (1, 2), (1, 3), (1,), (0, 1, 2))

    def test_one_that_tells_beside_some_that_hold_all(self):
        self.assert_least([1], (), (0, 1), (), (1, 2), ())

    def test_two(self):
        self.assert_least([0, 1], (0,), (1,))
        self.assert_least([0, 3], (3,), (0,))
        self.assert_least([2, 3], (2,), (3,))
        self.assert_least([1, 2], (1, 2), (2, 3), (1, 3))

    def test_the_first_two_of_several(self):
        self.assert_least([0, 2], (0, 1), (2, 3))
        self.assert_least([0, 1], (0, 2), (1, 3))
        self.assert_least([0, 1], (0, 3), (1, 2))
        self.assert_least([0, 2], (0, 1), (1, 2), (2, 3))
        self.assert_least([0, 2], (1, 2, 3), (1, 2), (2, 3), (0, 1, 3))

    def test_the_one_that_most_programs_miss_may_be_none_of_them(self):
        self.assert_least([1, 2], (0, 1), (0, 2), (1,), (2,), (0, 1), (0, 2))

    def test_a_later_number_may_be_in_the_smaller_set(self):
        # 0 and 1 need a third one; 0 and 3 don't.
        self.assert_least([0, 3], (0,), (1, 3), (2, 3))

    def test_more(self):
        self.assert_least([1, 2, 3], (1,), (2,), (3,))
        self.assert_least([0, 1, 2], (0, 1), (0, 2), (0, 3), (1, 2), (1, 3), (2, 3))
        self.assert_least([0, 1, 2, 3], (0,), (1,), (2,), (3,))

    def test_eight_other_programs(self):
        self.assert_least([0, 1, 2, 3], (3,), (), (2,), (0, 1, 2, 3), (1,), (1, 2), (0,), (0,))

    def test_how_others_are_ordered_does_not_matter(self):
        for missed in ([(0, 1), (1, 2), (2, 3)], [(2, 3), (1, 2), (0, 1)], [(1, 2), (0, 1), (2, 3)]):
            self.assert_least([0, 2], *missed)


class OfTheStrongest(Case):
    def test_numbers_are_those_of_the_family(self):
        # The sum of the row plus 1 is another one, but a number too; of the row turned round it's the same.
        inputs = several(steps((ADD, 1)), steps(REVERSE))
        told = family(several(HAS), inputs, ONE_TURNING, several(EQUAL, LONG))
        calls = [program(steps(SUM)), bound(2, 0, 1), told, others(several(NOTHING)), FOUND, STRONGEST, LEAST_SET]
        self.assertEqual([[1], [7], [4], [1], [3, 1, 2, 3], [2, 1, 2], [1, 2]], ask(*calls))

    def test_what_follows_is_none_of_the_set(self):
        # The other program holds none of the three, but the last one alone is strongest.
        told = family(several(ANY), several(steps(SORT)), ONE_TURNING, several(LONG, NUMBERS, EQUAL))
        apart = others(several(steps(STEPS, (ABOVE, 0))))
        calls = [bound(2, 0, 1), told, program(steps(SORT)), apart, by(0, 0), by(0, 1), by(0, 2), FOUND, LEAST_SET]
        self.assertEqual([[7], [3], [1], [1], [0], [0], [0], [3, 0, 1, 2], [1, 2]], ask(*calls))

    def test_none_strongest(self):
        told = family(several([AS_MANY, 9]), ONE_TURNING, ONE_TURNING, ALL_WAYS)
        self.assertEqual([[7], [1], [0], [0]], ask(told, others(several(steps(SUM))), STRONGEST, LEAST_SET))

    def test_a_family_that_has_nothing(self):
        self.assertEqual([[0]], ask(LEAST_SET))
        self.assertEqual([[2], [0]], ask(others(several(steps(SUM), NOTHING)), LEAST_SET))

    def test_what_is_kept_nowhere_is_not_held(self):
        # The other program is beyond wherever the row has a number.
        far = steps((ADD, 99), (TIMES, 99), (TIMES, 99), (TIMES, 99))
        told = family(several(HAS), ONE_TURNING, ONE_TURNING, several(EQUAL))
        self.assertEqual([[3], [1], [1], [1, 0]], ask(bound(1, 0, 1), told, others(several(far)), LEAST_SET))

    def test_the_bound_matters(self):
        told = family(several(ANY), several(steps(REVERSE)), ONE_TURNING, several(EQUAL))
        calls = [program(steps(SORT)), told, others(several(NOTHING)), bound(1, 0, 1), LEAST_SET, bound(2, 0, 1),
                 LEAST_SET]
        self.assertEqual([[1], [1], [1], [3], [0], [7], [1, 0]], ask(*calls))


def more_or_less(*added):
    """A row plus 0 to 3 is at most the row plus what is added, if that's as great: so many are found and strongest."""
    inputs = several(*[steps((ADD, number)) for number in range(4)])
    outputs = several(*[steps((ADD, number)) for number in added])
    return [bound(1, 0, 1), family(several(ANY), inputs, outputs, several(MOST))]


class TooManyStrongest(Case):
    TEN = more_or_less(1, 3, 4)
    ELEVEN = more_or_less(2, 3, 4)
    TWELVE = more_or_less(3, 4, 5)

    def test_ten_are_not_too_many(self):
        self.assertEqual([[3], [12], [10, 0, 1, 2, 3, 4, 5, 7, 8, 10, 11], [0]],
                         ask(*self.TEN, STRONGEST, LEAST_SET))

    def test_the_least_set_of_ten(self):
        # times 2 doesn't hold 3, 7, 10 and 11; a row without numbers stands so to any such row.
        told = others(several(steps((TIMES, 2)), steps((TAKE, 0))))
        self.assertEqual([[2], [1, 3]], ask(*self.TEN, told, LEAST_SET)[-2:])

    def test_eleven_are_too_many(self):
        self.assertEqual([[3], [12], [11, 0, 1, 2, 3, 4, 5, 6, 7, 8, 10, 11], [-6]],
                         ask(*self.ELEVEN, STRONGEST, LEAST_SET))

    def test_more_are_too_many(self):
        self.assertEqual([[3], [12], [12] + list(range(12)), [-6]], ask(*self.TWELVE, STRONGEST, LEAST_SET))

    def test_with_other_programs_too(self):
        self.assertEqual([[1], [-6]], ask(*self.ELEVEN, others(several(NOTHING)), LEAST_SET)[-2:])

    def test_only_the_strongest_count(self):
        turnings = several(*[NOTHING] * 4)
        told = family(several(ANY, ANY, HAS), turnings, turnings, ALL_WAYS)
        self.assertEqual([[3], [336], [1, 0], [0]], ask(bound(1, 0, 1), told, STRONGEST, LEAST_SET))

    def test_nothing_is_changed(self):
        answered = ask(*self.ELEVEN, others(several(NOTHING)), LEAST_SET, LEAST_SET, STRONGEST)
        self.assertEqual([[-6], [-6], [11, 0, 1, 2, 3, 4, 5, 6, 7, 8, 10, 11]], answered[-3:])


class TooManyInputs(Case):
    def test_one_hundred_and_fifty_are_not_too_many(self):
        # A row of up to one number is rising, but the number may be below 0.
        self.assertEqual([[1], [150], [1, 2]], behind_four(others(several(NOTHING)), bound(1, -49, 99), LEAST_SET))

    def test_one_more_is_too_many(self):
        self.assertEqual([[1], [151], [-7]], behind_four(others_that_miss((0,)), bound(1, -50, 99), LEAST_SET))

    def test_though_there_is_nothing_to_tell(self):
        self.assert_refused(-7, bound(1, -50, 99), LEAST_SET)

    def test_ahead_of_too_many_strongest(self):
        told = TooManyStrongest.ELEVEN
        self.assertEqual([[-6], [151], [-7], [3], [-6]],
                         ask(*told, LEAST_SET, bound(1, -50, 99), LEAST_SET, bound(1, 0, 1), LEAST_SET)[2:])
