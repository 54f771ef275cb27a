"""What goes with what over other programs, and which of them hold what; points 2 and 3: -2, -3, -7."""

from tests.telling import (
    ADD, ANY, AS_MANY, EQUAL, GREAT, LONG, REVERSE, SORT, SUM, THAT_MISSES, Case, ask, behind_four, bound, by, family,
    follows, last, others, others_that_miss, program, several, steps,
)

NOTHING = steps()
ONE_TURNING = several(NOTHING)
OUTSIDE_FOUR = (-1, -4, 4, 5, GREAT, -GREAT)


class By(Case):
    def test_each_program_and_each_relation(self):
        for missed, numbers in THAT_MISSES.items():
            with self.subTest(missed):
                answered = behind_four(others(several(numbers)), *[by(0, asked) for asked in range(4)])
                self.assertEqual([[1]] + [[0 if asked in missed else 1] for asked in range(4)], answered)

    def test_the_first_and_the_last_one(self):
        told = others_that_miss((0,), (1,), (2,))
        self.assertEqual([[3], [0], [1], [1], [0]], behind_four(told, by(0, 0), by(0, 2), by(2, 0), by(2, 2)))

    def test_the_last_one_of_eight(self):
        told = others_that_miss(*[()] * 7, (3,))
        self.assertEqual([[8], [1], [1], [0]], behind_four(told, by(0, 3), by(6, 3), by(7, 3)))

    def test_it_is_none_of_the_program_s_own(self):
        told = family(several(ANY), several(steps(REVERSE)), ONE_TURNING, several(EQUAL))
        self.assert_answers([0], program(steps(SORT)), bound(2, 0, 1), told, others(several(NOTHING)), by(0, 0))
        self.assert_answers([1], bound(2, 0, 1), told, others(several(steps(SORT))), by(0, 0))

    def test_broken_nowhere_and_kept_nowhere(self):
        told = family(several([AS_MANY, 2]), ONE_TURNING, ONE_TURNING, several(EQUAL))
        self.assertEqual([[1], [1], [0], [3], [1]],
                         ask(told, others(several(NOTHING)), by(0, 0), bound(2, 0, 0), by(0, 0)))

    def test_others_are_those_told_last(self):
        self.assertEqual([[1], [0], [1], [1]],
                         behind_four(others_that_miss((0,)), by(0, 0), others_that_miss((1,)), by(0, 0)))
        self.assertEqual([[1], [-1], [0]], behind_four(others_that_miss((0,)), others([]), by(0, 0)))


class ByRefused(Case):
    def test_no_such_relation(self):
        for none in OUTSIDE_FOUR:
            with self.subTest(none):
                self.assertEqual([[1], [-2]], behind_four(others_that_miss((0,)), by(0, none)))

    def test_a_family_that_has_nothing(self):
        self.assertEqual([[1], [-2]], ask(others(several(NOTHING)), by(0, 0)))

    def test_no_such_program(self):
        for none in (-1, -2, -3, 3, 8, GREAT, -GREAT):
            with self.subTest(none):
                self.assertEqual([[3], [-3]], behind_four(others_that_miss((0,), (1,), (2,)), by(none, 0)))

    def test_no_other_programs(self):
        self.assertEqual([[-3], [-3]], behind_four(by(0, 0), by(-1, 0)))
        self.assertEqual([[1], [0], [-3]], behind_four(others_that_miss((0,)), others([0]), by(0, 0)))

    def test_no_such_relation_ahead_of_no_such_program(self):
        for none in OUTSIDE_FOUR:
            self.assertEqual([[1], [-2], [-2]], behind_four(others_that_miss((0,)), by(1, none), by(-1, none)))
        self.assertEqual([[-2]], ask(by(0, 0)))

    def test_too_many_inputs_behind_both(self):
        answered = behind_four(others_that_miss((0,)), bound(1, -50, 99), by(0, 0), by(1, 0), by(0, 4), by(-1, -1))
        self.assertEqual([[1], [151], [-7], [-3], [-2], [-2]], answered)

    def test_one_hundred_and_fifty_inputs_are_not_too_many(self):
        answered = behind_four(others(several(NOTHING)), bound(1, -49, 99), by(0, 0), by(0, 2))
        self.assertEqual([[1], [150], [1], [0]], answered)


class Follows(Case):
    def assert_goes_with(self, told, numbers, asked):
        self.assertEqual([1], behind_four(told, follows(numbers, asked))[-1])

    def assert_first_against(self, first, told, numbers, asked):
        self.assertEqual([0, first], behind_four(told, follows(numbers, asked))[-1])

    def test_one_number(self):
        self.assert_goes_with(others_that_miss((0, 1)), [0], 1)
        self.assert_goes_with(others_that_miss((0,)), [0], 1)
        self.assert_goes_with(others_that_miss(()), [0], 1)
        self.assert_first_against(0, others_that_miss((1,)), [0], 1)

    def test_several_numbers(self):
        told = others_that_miss((0, 3), (1, 3), (2, 3))
        self.assert_goes_with(told, [0, 1, 2], 3)
        self.assert_first_against(2, told, [0, 1], 3)
        self.assert_first_against(1, told, [0, 2], 3)
        self.assert_first_against(0, told, [1, 2], 3)

    def test_several_numbers_in_another_order(self):
        told = others_that_miss((0, 3), (1, 3), (2, 3))
        self.assert_goes_with(told, [2, 0, 1], 3)
        self.assert_first_against(1, told, [2, 0], 3)

    def test_all_of_them_are_to_be_held(self):
        # Each of these programs holds one of the two, none both.
        self.assert_goes_with(others_that_miss((0, 2), (1, 2)), [0, 1], 2)

    def test_the_same_number_twice(self):
        told = others_that_miss((0, 3), (3,))
        self.assert_first_against(1, told, [0, 0], 3)
        self.assert_goes_with(others_that_miss((0, 3)), [0, 0], 3)

    def test_twenty_numbers(self):
        self.assert_first_against(1, others_that_miss((0, 3), (3,)), [0, 1] * 10, 3)
        self.assert_goes_with(others_that_miss((0, 3), (1, 3)), [1] * 19 + [0], 3)

    def test_the_relation_itself_among_them(self):
        told = others_that_miss((0,), (0, 1), ())
        self.assert_goes_with(told, [0], 0)
        self.assert_goes_with(told, [3, 0], 0)

    def test_no_numbers(self):
        self.assert_goes_with(others_that_miss((), (1,), (2, 3)), [], 0)
        self.assert_first_against(2, others_that_miss((), (1,), (0, 3), (0,)), [], 0)

    def test_no_other_programs(self):
        for asked in range(4):
            self.assert_goes_with(others([0]), [], asked)
            self.assert_goes_with(others([0]), [0, 1, 2, 3], asked)

    def test_no_other_programs_though_the_program_holds_them_and_not_it(self):
        told = family(several(ANY), several(steps((ADD, 1))), ONE_TURNING, several(EQUAL, LONG))
        self.assertEqual([[3], [2], [1]], ask(bound(1, 0, 1), told, follows([1], 0)))
        self.assertEqual([0, 0], last(bound(1, 0, 1), told, others(several(NOTHING)), follows([1], 0)))

    def test_the_first_of_several(self):
        self.assert_first_against(0, others_that_miss((1,), (1,), (1, 2)), [0], 1)
        self.assert_first_against(3, others_that_miss((0, 1), (), (0,), (1,), (1, 3), (1,)), [0], 1)
        self.assert_first_against(7, others_that_miss(*[(0, 1)] * 7, (1,)), [0], 1)

    def test_it_is_not_the_same_turned_round(self):
        told = others_that_miss((0, 1), (1,))
        self.assert_first_against(1, told, [0], 1)
        self.assert_goes_with(told, [1], 0)

    def test_the_bound_matters(self):
        told = family(several(ANY), several(steps(REVERSE)), ONE_TURNING, several(EQUAL, LONG))
        answered = ask(told, others(several(NOTHING)), bound(1, 0, 1), follows([1], 0), bound(2, 0, 1), follows([1], 0))
        self.assertEqual([[2], [1], [3], [1], [7], [0, 0]], answered)

    def test_what_is_kept_nowhere_is_not_held(self):
        # With two numbers or more there's no input: no program holds the second one.
        told = family(several(ANY, [AS_MANY, 2]), ONE_TURNING, ONE_TURNING, several(EQUAL))
        answered = ask(told, others(several(NOTHING, steps(SUM))), bound(1, 0, 1), follows([0], 1), follows([1], 0))
        self.assertEqual([[2], [2], [3], [0, 0], [1]], answered)


class FollowsRefused(Case):
    def test_no_such_relation(self):
        told = others_that_miss((0,))
        for none in OUTSIDE_FOUR:
            with self.subTest(none):
                for numbers, asked in (
                    ([], none), ([0], none), ([none], 0), ([none], none), ([0, none], 1), ([none, 0], 1),
                    ([0] * 19 + [none], 1), ([none] * 20, 1), ([0, 0, none, 0], 0),
                ):
                    self.assertEqual([[1], [-2]], behind_four(told, follows(numbers, asked)))

    def test_though_there_are_no_other_programs(self):
        self.assertEqual([[-2], [-2]], behind_four(follows([], 4), follows([4], 0)))

    def test_a_family_that_has_nothing(self):
        self.assertEqual([[-2], [-2]], ask(follows([], 0), follows([0], 0)))

    def test_too_many_inputs(self):
        told = others_that_miss((0,))
        answered = behind_four(told, bound(1, -50, 99), follows([], 0), follows([0], 0))
        self.assertEqual([[1], [151], [-7], [-7]], answered)

    def test_one_hundred_and_fifty_inputs_are_not_too_many(self):
        # A row of up to one number is rising, but the number may be below 0.
        answered = behind_four(others(several(NOTHING)), bound(1, -49, 99), follows([], 0), follows([0], 2))
        self.assertEqual([[1], [150], [1], [0, 0]], answered)

    def test_too_many_inputs_though_there_are_no_other_programs(self):
        self.assertEqual([[151], [-7]], behind_four(bound(1, -50, 99), follows([0], 0)))

    def test_no_such_relation_ahead_of_too_many_inputs(self):
        answered = behind_four(others_that_miss((0,)), bound(1, -50, 99), follows([], 4), follows([0, 4], 0))
        self.assertEqual([[1], [151], [-2], [-2]], answered)
