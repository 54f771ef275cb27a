"""Point 1: what is taken as a program, as other programs, and what isn't."""

from tests.telling import (
    ADD, ANY, EQUAL, GREAT, IN_RANGE, LONG, NOT_PROGRAMS, REVERSE, SORT, TAKE, TIMES, TWICE, Case, bound, held, others,
    program, relation, several, steps,
)

NOTHING = steps()


class Program(Case):
    def test_programs(self):
        self.assert_answers([0], program([0]))
        self.assert_answers([2], program([2, SORT, TAKE, 2]))
        self.assert_answers([8], program([8] + [SORT] * 8))
        self.assert_answers([8], program([8] + [ADD, 0] * 8))

    def test_every_step(self):
        for number in range(18):
            value = [1] if number in IN_RANGE else []
            self.assert_answers([1], program([1, number] + value))
            self.assert_refused(-1, program([1, number] + value + [1]))
            if value:
                self.assert_refused(-1, program([1, number]))

    def test_values_within_and_outside(self):
        for number, (least, greatest) in IN_RANGE.items():
            self.assert_answers([1], program([1, number, least]))
            self.assert_answers([1], program([1, number, greatest]))
            self.assert_refused(-1, program([1, number, least - 1]))
            self.assert_refused(-1, program([1, number, greatest + 1]))

    def test_what_is_not_a_program(self):
        for why, numbers in NOT_PROGRAMS.items():
            with self.subTest(why):
                self.assert_refused(-1, program(numbers))

    def test_it_is_the_program_from_now_on(self):
        asked = held(relation(ANY, steps(TWICE), LONG, NOTHING))
        self.assert_answers([1, 1, 0, 1], bound(1, 5, 5), asked)
        self.assert_answers([2, 0, 0, -1], bound(1, 5, 5), program(steps((TAKE, 1))), asked)
        self.assert_answers([1, 1, 0, 1], program(steps((TAKE, 1))), bound(1, 5, 5), program(NOTHING), asked)

    def test_a_refusal_leaves_the_program(self):
        asked = held(relation(ANY, steps(TWICE), LONG, NOTHING))
        for why, numbers in NOT_PROGRAMS.items():
            with self.subTest(why):
                told = [bound(1, 5, 5), program(steps((TAKE, 1))), program(numbers)]
                self.assert_answers([2, 0, 0, -1], *told, asked)


class Others(Case):
    def test_other_programs(self):
        self.assert_answers([0], others([0]))
        self.assert_answers([1], others(several(NOTHING)))
        self.assert_answers([3], others(several(steps(REVERSE), steps(SORT, REVERSE), steps((ADD, -99)))))

    def test_as_many_as_there_may_be(self):
        self.assert_answers([8], others(several(*[NOTHING] * 8)))
        self.assert_answers([8], others(several(*[steps(*[(TIMES, 99)] * 8)] * 8)))

    def test_too_many(self):
        self.assert_refused(-1, others(several(*[NOTHING] * 9)))
        self.assert_refused(-1, others(several(steps(*[SORT] * 9))))

    def test_what_are_not_other_programs(self):
        for numbers in ([], [1], [2, 0], [0, 0], [1, 0, 0], [-1], [GREAT], [-GREAT], [1, GREAT], [1, 1, GREAT],
                        [1, 1, ADD, GREAT], [2, 1, SORT, 1, 18], [2, 1, 18, 1, SORT], [8] + [0] * 199):
            with self.subTest(numbers):
                self.assert_refused(-1, others(numbers))

    def test_what_is_not_a_program_is_not_one_of_several(self):
        for why, numbers in NOT_PROGRAMS.items():
            with self.subTest(why):
                self.assert_refused(-1, others([1] + numbers))

    def test_values_within_and_outside(self):
        for number, (least, greatest) in IN_RANGE.items():
            self.assert_answers([2], others([2, 0, 1, number, least]))
            self.assert_answers([2], others([2, 0, 1, number, greatest]))
            self.assert_refused(-1, others([2, 0, 1, number, least - 1]))
            self.assert_refused(-1, others([2, 0, 1, number, greatest + 1]))

    def test_they_leave_the_program_and_the_bound(self):
        asked = held(relation(ANY, NOTHING, EQUAL, steps(REVERSE)))
        told = [bound(2, 0, 1), program(steps(SORT))]
        self.assert_answers([5, 2, 0, 4], *told, others(several(steps(REVERSE))), asked)
        self.assert_answers([5, 2, 0, 4], *told, others([1]), asked)
