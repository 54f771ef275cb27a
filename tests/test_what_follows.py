"""What follows from what: of ways, of conditions, of relations, as says tells it; point 3: -2."""

from tests.telling import (
    ABS, ADD, ALL_WAYS, ANY, AS_MANY, AT_LEAST, BAG, BEGINS, EQUAL, GREAT, HAS, LONG, MOST, NOT_BELOW, NOT_TWICE,
    NUMBERS, REVERSE, RISING, ROTATE, SORT, TAKE, TIMES, Case, ask, bound, family, last, others, program, says,
    several, steps,
)

NOTHING = steps()
ONE_TURNING = several(NOTHING)

THAT_FOLLOW = {
    EQUAL: [EQUAL, BAG, NUMBERS, MOST, AT_LEAST, BEGINS, LONG],
    BAG: [BAG, NUMBERS, LONG],
    NUMBERS: [NUMBERS],
    MOST: [MOST, LONG],
    AT_LEAST: [AT_LEAST, LONG],
    BEGINS: [BEGINS],
    LONG: [LONG],
}

ZERO, ONE, TWO, THREE, NINE = (AS_MANY, 0), (AS_MANY, 1), (AS_MANY, 2), (AS_MANY, 3), (AS_MANY, 9)

# Behind each condition all those that it's no wider than.
NO_WIDER_THAN = {
    ANY: [ANY, ZERO],
    HAS: [ANY, ZERO, HAS, ONE],
    RISING: [ANY, ZERO, RISING],
    NOT_BELOW: [ANY, ZERO, NOT_BELOW],
    NOT_TWICE: [ANY, ZERO, NOT_TWICE],
    ZERO: [ANY, ZERO],
    ONE: [ANY, ZERO, HAS, ONE],
    TWO: [ANY, ZERO, HAS, ONE, TWO],
    THREE: [ANY, ZERO, HAS, ONE, TWO, THREE],
    NINE: [ANY, ZERO, HAS, ONE, TWO, THREE, NINE],
}


class Ways(Case):
    def test_each_pair(self):
        told = family(several(ANY), ONE_TURNING, ONE_TURNING, ALL_WAYS)
        for stronger in range(7):
            for weaker in range(7):
                with self.subTest(stronger=stronger, weaker=weaker):
                    expected = 1 if weaker in THAT_FOLLOW[stronger] else 0
                    self.assert_answers([expected], told, says(stronger, weaker))

    def test_each_pair_though_ways_are_told_in_another_order(self):
        told = family(several(ANY), ONE_TURNING, ONE_TURNING, several(*range(6, -1, -1)))
        for stronger in range(7):
            for weaker in range(7):
                with self.subTest(stronger=stronger, weaker=weaker):
                    expected = 1 if weaker in THAT_FOLLOW[stronger] else 0
                    self.assert_answers([expected], told, says(6 - stronger, 6 - weaker))


class Conditions(Case):
    def test_each_pair(self):
        for condition, wider_ones in NO_WIDER_THAN.items():
            for other in NO_WIDER_THAN:
                with self.subTest(condition=condition, other=other):
                    told = family(several(condition, other), ONE_TURNING, ONE_TURNING, several(LONG))
                    expected = 1 if other in wider_ones else 0
                    self.assert_answers([expected], told, says(1, 0))

    def test_every_two_that_ask_for_so_many(self):
        for count in range(10):
            for other in range(10):
                with self.subTest(count=count, other=other):
                    told = family(several([AS_MANY, count], [AS_MANY, other]), ONE_TURNING, ONE_TURNING, several(BAG))
                    self.assert_answers([1 if other <= count else 0], told, says(1, 0))

    def test_has_numbers_and_so_many(self):
        for count in range(10):
            told = family(several([AS_MANY, count], HAS), ONE_TURNING, ONE_TURNING, several(BAG))
            self.assert_answers([1 if count >= 1 else 0], told, says(1, 0))
            self.assert_answers([1 if count <= 1 else 0], told, says(0, 1))


class Relations(Case):
    def test_the_condition_and_the_way_are_both_asked_for(self):
        # any: equal 0, long 1; rising: equal 2, long 3.
        told = family(several(ANY, RISING), ONE_TURNING, ONE_TURNING, several(EQUAL, LONG))
        following = {(0, 0), (0, 1), (0, 2), (0, 3), (1, 1), (1, 3), (2, 2), (2, 3), (3, 3)}
        for stronger in range(4):
            for weaker in range(4):
                with self.subTest(stronger=stronger, weaker=weaker):
                    expected = 1 if (stronger, weaker) in following else 0
                    self.assert_answers([expected], told, says(stronger, weaker))

    def test_other_turnings(self):
        # nothing, nothing 0; nothing, reverse 1; reverse, nothing 2; reverse, reverse 3.
        turnings = several(NOTHING, steps(REVERSE))
        told = family(several(ANY), turnings, turnings, several(EQUAL))
        for stronger in range(4):
            for weaker in range(4):
                with self.subTest(stronger=stronger, weaker=weaker):
                    self.assert_answers([1 if stronger == weaker else 0], told, says(stronger, weaker))

    def test_turnings_that_come_to_the_same_are_others_all_the_same(self):
        pairs = [
            (NOTHING, steps((ADD, 0))),
            (NOTHING, steps(REVERSE, REVERSE)),
            (steps(SORT), steps(SORT, SORT)),
            (steps(SORT, (TIMES, 2)), steps((TIMES, 2), SORT)),
            (steps((ROTATE, 0)), steps((TAKE, 9))),
        ]
        for first, second in pairs:
            with self.subTest(first=first, second=second):
                inputs = family(several(ANY), several(first, second), ONE_TURNING, several(EQUAL))
                outputs = family(several(ANY), ONE_TURNING, several(first, second), several(EQUAL))
                self.assertEqual([[2], [0], [0], [1], [1]],
                                 ask(inputs, says(0, 1), says(1, 0), says(0, 0), says(1, 1)))
                self.assertEqual([[2], [0], [0], [1], [1]],
                                 ask(outputs, says(0, 1), says(1, 0), says(0, 0), says(1, 1)))

    def test_the_same_step_with_another_value(self):
        turnings = several(steps((ADD, 1)), steps((ADD, -1)))
        self.assert_answers([0], family(several(ANY), turnings, ONE_TURNING, several(EQUAL)), says(0, 1))
        self.assert_answers([0], family(several(ANY), ONE_TURNING, turnings, several(EQUAL)), says(0, 1))

    def test_turnings_told_twice_are_the_same(self):
        twice = several(steps((ADD, 1), SORT), steps(ABS), steps((ADD, 1), SORT))
        once = several(steps(REVERSE))
        ways = several(EQUAL, LONG)
        for told in (family(several(ANY), twice, once, ways), family(several(ANY), once, twice, ways)):
            # 0 and 1 with the first turning, 4 and 5 with the last one.
            answered = ask(told, says(0, 4), says(4, 0), says(0, 5), says(4, 1), says(5, 0), says(0, 2), says(2, 5))
            self.assertEqual([[6], [1], [1], [1], [1], [0], [0], [0]], answered)

    def test_conditions_and_ways_told_twice_are_the_same(self):
        told = family(several(RISING, RISING), ONE_TURNING, ONE_TURNING, several(BAG, BAG))
        for stronger in range(4):
            for weaker in range(4):
                self.assert_answers([1], told, says(stronger, weaker))

    def test_neither_the_program_nor_the_inputs_nor_other_programs_matter(self):
        told = family(several(ANY), several(steps((ADD, 1))), ONE_TURNING, several(EQUAL, LONG))
        # The program doesn't hold the first one, there are too many inputs to try it.
        answered = ask(told, bound(1, -50, 99), program(steps(SORT)), others(several(NOTHING)), says(0, 1), says(1, 0))
        self.assertEqual([[1], [0]], answered[-2:])

    def test_it_asks_for_the_family_from_now_on(self):
        first = family(several(ANY), ONE_TURNING, ONE_TURNING, several(EQUAL, LONG))
        second = family(several(ANY), ONE_TURNING, ONE_TURNING, several(LONG, EQUAL))
        self.assertEqual([[2], [1], [2], [0]], ask(first, says(0, 1), second, says(0, 1)))


class NoSuchRelation(Case):
    TOLD = family(several(ANY, HAS), ONE_TURNING, ONE_TURNING, several(EQUAL, LONG))

    def test_either_number(self):
        self.assertEqual([1], last(self.TOLD, says(0, 3)))
        for none in (-1, -4, 4, 5, GREAT, -GREAT):
            for there in (0, 3):
                with self.subTest(none=none, there=there):
                    self.assert_refused(-2, self.TOLD, says(none, there))
                    self.assert_refused(-2, self.TOLD, says(there, none))
            self.assert_refused(-2, self.TOLD, says(none, none))

    def test_a_family_that_has_nothing(self):
        self.assert_refused(-2, says(0, 0))
        for told in (
            family([0], ONE_TURNING, ONE_TURNING, ALL_WAYS),
            family(several(ANY), [0], ONE_TURNING, ALL_WAYS),
            family(several(ANY), ONE_TURNING, [0], ALL_WAYS),
            family(several(ANY), ONE_TURNING, ONE_TURNING, [0]),
        ):
            self.assert_refused(-2, told, says(0, 0))
