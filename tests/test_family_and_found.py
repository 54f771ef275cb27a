"""Point 1: what is taken as a family; how its relations are numbered; which of them are found."""

from tests.telling import (
    ADD, ALL_WAYS, ANY, AS_MANY, BAG, BEGINS, EQUAL, FOUND, GREAT, HAS, IN_RANGE, LONG, NOT_BELOW, NOT_PROGRAMS,
    NUMBERS, REVERSE, RISING, SORT, TAKE, TIMES, TWICE, Case, ask, bound, family, program, several, steps,
)

NOTHING = steps()
ONE_CONDITION = several(ANY)
ONE_TURNING = several(NOTHING)
ONE_WAY = several(EQUAL)
FULL_TURNING = steps(*[(TIMES, 99)] * 8)

NOT_CONDITIONS = [
    [], [1], [2, 0], [0, 0], [1, 0, 0], [4, 0, 0, 0, 0], [-1], [1, -1], [1, 6], [1, 5], [1, 5, -1], [1, 5, 10],
    [1, 5, 0, 0], [2, 5, 0], [1, 0, 5], [GREAT], [-GREAT], [1, GREAT], [1, -GREAT], [1, 5, GREAT], [1, 5, -GREAT],
    [3, 5, 0, 5, 0, 5, 0, 0, 0, 0],
]
NOT_WAYS = [
    [], [1], [2, 0], [0, 0], [1, 0, 0], [8, 0, 1, 2, 3, 4, 5, 6, 0], [-1], [1, -1], [1, 7], [GREAT], [-GREAT],
    [1, GREAT], [1, -GREAT], [7, 0, 1, 2, 3, 4, 5, 7], [7, 0, 1, 2, 3, 4, 5, 6, 0, 0],
]
NOT_TURNINGS = [
    [], [1], [2, 0], [0, 0], [1, 0, 0], [5, 0, 0, 0, 0, 0], [-1], [GREAT], [-GREAT], [2, 0, 1], [4] + [0] * 99,
]
NOT_TURNINGS += [[1] + numbers for numbers in NOT_PROGRAMS.values()]
NOT_TURNINGS += [[2, 0] + numbers for numbers in NOT_PROGRAMS.values()]


class Told(Case):
    def test_families(self):
        self.assert_answers([1], family(ONE_CONDITION, ONE_TURNING, ONE_TURNING, ONE_WAY))
        self.assert_answers([12], family([1, 0], [2, 1, 5, 1, 0, 1], [2, 0, 1, 0, 1], [3, 0, 3, 6]))

    def test_nothing_of_a_kind(self):
        self.assert_answers([0], family([0], [0], [0], [0]))
        self.assert_answers([0], family([0], ONE_TURNING, ONE_TURNING, ONE_WAY))
        self.assert_answers([0], family(ONE_CONDITION, [0], ONE_TURNING, ONE_WAY))
        self.assert_answers([0], family(ONE_CONDITION, ONE_TURNING, [0], ONE_WAY))
        self.assert_answers([0], family(ONE_CONDITION, ONE_TURNING, ONE_TURNING, [0]))

    def test_as_many_as_there_may_be(self):
        conditions = several([AS_MANY, 9], [AS_MANY, 0], HAS)
        turnings = several(*[FULL_TURNING] * 4)
        self.assert_answers([336], family(conditions, turnings, turnings, ALL_WAYS))

    def test_one_more_than_there_may_be(self):
        self.assert_answers([3], family(several(ANY, HAS, RISING), ONE_TURNING, ONE_TURNING, ONE_WAY))
        self.assert_refused(-1, family(several(ANY, HAS, RISING, ANY), ONE_TURNING, ONE_TURNING, ONE_WAY))
        self.assert_answers([4], family(ONE_CONDITION, several(*[NOTHING] * 4), ONE_TURNING, ONE_WAY))
        self.assert_refused(-1, family(ONE_CONDITION, several(*[NOTHING] * 5), ONE_TURNING, ONE_WAY))
        self.assert_answers([4], family(ONE_CONDITION, ONE_TURNING, several(*[NOTHING] * 4), ONE_WAY))
        self.assert_refused(-1, family(ONE_CONDITION, ONE_TURNING, several(*[NOTHING] * 5), ONE_WAY))
        self.assert_answers([7], family(ONE_CONDITION, ONE_TURNING, ONE_TURNING, several(*[LONG] * 7)))
        self.assert_refused(-1, family(ONE_CONDITION, ONE_TURNING, ONE_TURNING, several(*[LONG] * 8)))

    def test_every_condition_and_every_way(self):
        for condition in (0, 1, 2, 3, 4, [5, 0], [5, 9]):
            self.assert_answers([1], family(several(condition), ONE_TURNING, ONE_TURNING, ONE_WAY))
        for way in range(7):
            self.assert_answers([1], family(ONE_CONDITION, ONE_TURNING, ONE_TURNING, several(way)))

    def test_what_are_not_conditions(self):
        for numbers in NOT_CONDITIONS:
            with self.subTest(numbers):
                self.assert_refused(-1, family(numbers, ONE_TURNING, ONE_TURNING, ONE_WAY))

    def test_what_are_not_turnings(self):
        for numbers in NOT_TURNINGS:
            with self.subTest(numbers):
                self.assert_refused(-1, family(ONE_CONDITION, numbers, ONE_TURNING, ONE_WAY))
                self.assert_refused(-1, family(ONE_CONDITION, ONE_TURNING, numbers, ONE_WAY))

    def test_what_are_not_ways(self):
        for numbers in NOT_WAYS:
            with self.subTest(numbers):
                self.assert_refused(-1, family(ONE_CONDITION, ONE_TURNING, ONE_TURNING, numbers))

    def test_a_list_must_be_whole_though_there_is_no_relation(self):
        self.assert_refused(-1, family([0], [0], [0], [1, 7]))
        self.assert_refused(-1, family([0], [0], [1], [0]))
        self.assert_refused(-1, family([0], [], [0], [0]))
        self.assert_refused(-1, family([0, 0], [0], [0], [0]))

    def test_values_of_steps_within_and_outside(self):
        for number, (least, greatest) in IN_RANGE.items():
            for value, expected in ((least, [1]), (greatest, [1]), (least - 1, [-1]), (greatest + 1, [-1])):
                turnings = [1, 1, number, value]
                self.assert_answers(expected, family(ONE_CONDITION, turnings, ONE_TURNING, ONE_WAY))
                self.assert_answers(expected, family(ONE_CONDITION, ONE_TURNING, turnings, ONE_WAY))

    def test_it_is_the_family_from_now_on(self):
        first = family(ONE_CONDITION, ONE_TURNING, ONE_TURNING, ALL_WAYS)
        second = family(ONE_CONDITION, ONE_TURNING, ONE_TURNING, several(LONG, EQUAL))
        self.assertEqual([[7], [7, 0, 1, 2, 3, 4, 5, 6], [2], [2, 0, 1]], ask(first, FOUND, second, FOUND))

    def test_a_refusal_leaves_the_family(self):
        told = family(several(ANY, HAS), several(NOTHING, steps((TAKE, 1))), ONE_TURNING, several(EQUAL, LONG))
        refused = [family(numbers, [0], [0], [0]) for numbers in NOT_CONDITIONS]
        refused += [family([0], numbers, [0], [0]) for numbers in NOT_TURNINGS]
        refused += [family([0], [0], numbers, [0]) for numbers in NOT_TURNINGS]
        refused += [family([0], [0], [0], numbers) for numbers in NOT_WAYS]
        for call in refused:
            with self.subTest(call):
                answered = ask(bound(2, 0, 1), told, call, FOUND)
                self.assertEqual([[7], [8], [-1], [4, 0, 1, 2, 3]], answered)


class Numbering(Case):
    """The program does nothing, the inputs are all rows of up to two numbers 0 and 1."""

    def assert_found(self, expected, conditions, inputs, outputs, ways):
        answer = ask(bound(2, 0, 1), family(conditions, inputs, outputs, ways), FOUND)[-1]
        self.assertEqual([len(expected)] + expected, answer)

    def test_by_the_way_last(self):
        ways = several(EQUAL, LONG, BEGINS, BAG)
        self.assert_found([1, 3], ONE_CONDITION, several(steps(REVERSE)), ONE_TURNING, ways)

    def test_ways_as_they_are_told(self):
        ways = several(LONG, EQUAL, BEGINS, BAG)
        self.assert_found([0, 3], ONE_CONDITION, several(steps(REVERSE)), ONE_TURNING, ways)

    def test_the_condition_ahead_of_the_way(self):
        # With 9 numbers or more there's no input; a rising row is sorted, 1 0 isn't.
        conditions = several([AS_MANY, 9], RISING, ANY)
        self.assert_found([2, 3, 5], conditions, several(steps(SORT)), ONE_TURNING, several(EQUAL, LONG))

    def test_the_output_turning_ahead_of_the_condition(self):
        # Turned round and twice, each with any and none below 0, each with equal, bag and numbers.
        outputs = several(steps(REVERSE), steps(TWICE))
        self.assert_found([1, 2, 4, 5, 8, 11], several(ANY, NOT_BELOW), ONE_TURNING, outputs,
                          several(EQUAL, BAG, NUMBERS))

    def test_the_input_turning_first(self):
        inputs = several(steps(TWICE), NOTHING, steps((ADD, 1)))
        outputs = several(NOTHING, steps(TWICE))
        # twice with nothing, twice; nothing with nothing, twice; add 1 with nothing, twice.
        self.assert_found([1, 2], ONE_CONDITION, inputs, outputs, several(EQUAL))

    def test_all_four_at_once(self):
        inputs = several(steps(REVERSE), NOTHING)
        outputs = several(steps((ADD, 1)), NOTHING, steps(REVERSE))
        conditions = several([AS_MANY, 9], ANY)
        ways = several(EQUAL, LONG)
        # Numbers are 12 and 4 and 2 and 1 times where the part stands; with the first condition nothing is kept.
        found = []
        found += [3]  # reverse; add 1: long
        found += [7]  # reverse; nothing: long
        found += [10, 11]  # reverse; reverse: equal, long
        found += [15]  # nothing; add 1: long
        found += [18, 19]  # nothing; nothing: equal, long
        found += [23]  # nothing; reverse: long
        self.assert_found(found, conditions, inputs, outputs, ways)

    def test_what_is_told_twice_is_there_twice(self):
        self.assert_found([0, 1, 2, 3, 4, 5, 6, 7], several(ANY, ANY), several(NOTHING, NOTHING), ONE_TURNING,
                          several(LONG, LONG))


class Found(Case):
    def test_what_is_kept_nowhere_is_not_held(self):
        # At the one input the condition isn't so.
        self.assert_answers([0], family(several(HAS), ONE_TURNING, ONE_TURNING, ALL_WAYS), FOUND)

    def test_kept_once_and_off_elsewhere_is_held(self):
        told = family(several([AS_MANY, 2], [AS_MANY, 3]), ONE_TURNING, ONE_TURNING, ONE_WAY)
        self.assert_answers([1, 0], bound(2, 0, 0), told, FOUND)

    def test_broken_once_is_not_held(self):
        told = family(ONE_CONDITION, several(steps(SORT)), ONE_TURNING, several(EQUAL, BAG))
        self.assert_answers([1, 1], bound(2, 0, 1), told, FOUND)

    def test_it_asks_for_the_program(self):
        told = family(ONE_CONDITION, several(steps(REVERSE)), ONE_TURNING, several(EQUAL, BAG))
        self.assert_answers([1, 1], bound(2, 0, 1), told, FOUND)
        self.assert_answers([2, 0, 1], bound(2, 0, 1), told, program(steps(SORT)), FOUND)

    def test_as_many_relations_as_there_may_be(self):
        conditions = several(ANY, RISING, [AS_MANY, 0])
        turnings = several(*[steps(TWICE, (TAKE, 9), SORT)] * 4)
        told = family(conditions, turnings, turnings, ALL_WAYS)
        self.assert_answers([336] + list(range(336)), bound(2, -5, 5), told, FOUND)
