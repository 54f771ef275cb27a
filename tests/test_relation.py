"""relation: the family's relation with a number, told as numbers; point 3: -2."""

from tests.telling import (
    ABS, ADD, ALL_WAYS, ANY, AS_MANY, BEGINS, EQUAL, GREAT, HAS, IN_RANGE, LONG, MOST, NOT_BELOW, NOT_TWICE, REST,
    REVERSE, RISING, SORT, TAKE, TIMES, Case, ask, bound, family, flat, held, last, relation, several, steps, tell,
)

NOTHING = steps()
ONE_TURNING = several(NOTHING)
FULL_TURNING = steps(*[(TIMES, -99)] * 8)


class Told(Case):
    def assert_told(self, expected):
        """The relation is the only one of a family, and is told as it was there."""
        condition, input_turning, way, output_turning = expected
        told = family(several(condition), several(input_turning), several(output_turning), several(way))
        self.assert_answers(flat(expected), told, tell(0))

    def test_numbers_as_they_stand(self):
        told = [2, 3, 1, 5, 7, 5, 1, 2, 0, -9, 4, 5, 1, 2, 8, 0, 17, 2, 1, 6]
        self.assert_answers([5, 7, 2, 0, -9, 4, 6, 2, 8, 0, 17], told, tell(0))

    def test_each_condition(self):
        for condition in (ANY, HAS, RISING, NOT_BELOW, NOT_TWICE):
            self.assert_told((condition, NOTHING, EQUAL, NOTHING))

    def test_each_k(self):
        for count in range(10):
            self.assert_told(([AS_MANY, count], NOTHING, EQUAL, NOTHING))

    def test_each_way(self):
        for way in range(7):
            self.assert_told((ANY, NOTHING, way, NOTHING))

    def test_turnings_with_steps_and_without(self):
        self.assert_told((ANY, NOTHING, MOST, steps(REVERSE)))
        self.assert_told((ANY, steps(REVERSE), MOST, NOTHING))
        self.assert_told((HAS, steps(SORT, (TAKE, 2), ABS), BEGINS, steps((ADD, -1), (REST, 9))))
        self.assert_told(([AS_MANY, 9], FULL_TURNING, LONG, FULL_TURNING))

    def test_each_step(self):
        for number in range(18):
            for value in IN_RANGE.get(number, [None]):
                step = number if value is None else (number, value)
                self.assert_told((ANY, steps(step, step), EQUAL, NOTHING))
                self.assert_told((ANY, NOTHING, EQUAL, steps(step, step)))

    def test_a_value_of_0_is_told(self):
        self.assert_told((ANY, steps((ADD, 0), (TAKE, 0)), EQUAL, steps((TIMES, 0))))

    def test_what_is_told_is_a_relation_to_held(self):
        told = family(several([AS_MANY, 0]), several(steps(SORT)), several(steps(REVERSE)), several(LONG))
        answered = last(told, tell(0))
        self.assert_answers([7, 0, 0, -1], bound(2, 0, 1), held(answered))


class Numbering(Case):
    def test_each_of_a_family(self):
        conditions = [[RISING], [AS_MANY, 3], [ANY]]
        inputs = [steps(REVERSE), steps((ADD, -4), SORT)]
        outputs = [NOTHING, steps((TAKE, 7)), steps(ABS)]
        ways = [LONG, EQUAL]
        told = family(several(*conditions), several(*inputs), several(*outputs), several(*ways))
        number = 0
        for input_turning in inputs:
            for output_turning in outputs:
                for condition in conditions:
                    for way in ways:
                        expected = relation(condition, input_turning, way, output_turning)
                        self.assert_answers(expected, told, tell(number))
                        number += 1
        self.assertEqual(36, number)

    def test_the_last_one_of_as_many_as_there_may_be(self):
        turnings = several(NOTHING, steps(SORT), steps(ABS), steps(REVERSE))
        told = family(several(ANY, HAS, RISING), turnings, turnings, ALL_WAYS)
        self.assertEqual([[336], [RISING, 1, REVERSE, LONG, 1, REVERSE], [ANY, 0, EQUAL, 0]],
                         ask(told, tell(335), tell(0)))

    def test_it_is_that_of_the_family_from_now_on(self):
        first = family(several(ANY), ONE_TURNING, ONE_TURNING, several(LONG))
        second = family(several(HAS), ONE_TURNING, ONE_TURNING, several(EQUAL))
        refused = family(several(ANY), ONE_TURNING, ONE_TURNING, several(7))
        self.assertEqual([[1], [0, 0, 6, 0], [1], [1, 0, 0, 0], [-1], [1, 0, 0, 0]],
                         ask(first, tell(0), second, tell(0), refused, tell(0)))

    def test_with_more_inputs_than_relations_are_tried_at(self):
        told = family(several(ANY), ONE_TURNING, ONE_TURNING, several(LONG))
        self.assert_answers([0, 0, 6, 0], bound(1, -50, 99), told, tell(0))


class NoSuchRelation(Case):
    def test_numbers_outside(self):
        told = family(several(ANY, HAS), ONE_TURNING, ONE_TURNING, several(EQUAL, LONG))
        self.assert_answers([HAS, 0, LONG, 0], told, tell(3))
        for none in (-1, -4, 4, 5, 336, GREAT, -GREAT):
            with self.subTest(none):
                self.assert_refused(-2, told, tell(none))

    def test_a_family_that_has_nothing(self):
        for none in (0, -1, 1, GREAT, -GREAT):
            self.assert_refused(-2, tell(none))
        for told in (
            family([0], [0], [0], [0]),
            family([0], ONE_TURNING, ONE_TURNING, ALL_WAYS),
            family(several(ANY), [0], ONE_TURNING, ALL_WAYS),
            family(several(ANY), ONE_TURNING, [0], ALL_WAYS),
            family(several(ANY), ONE_TURNING, ONE_TURNING, [0]),
        ):
            self.assert_refused(-2, told, tell(0))

    def test_with_more_inputs_than_relations_are_tried_at(self):
        self.assert_refused(-2, bound(1, -50, 99), tell(0))
