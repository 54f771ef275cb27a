"""Point 2: held -1 of what isn't whole a relation, then held and found -7 of too many inputs."""

from tests.telling import (
    ADD, ALL_WAYS, ANY, AS_MANY, EQUAL, FOUND, GREAT, IN_RANGE, LONG, NOT_PROGRAMS, SORT, TIMES, TWICE, Case, ask,
    bound, family, held, relation, several, steps,
)

NOTHING = steps()
ALWAYS_KEPT = held(relation(ANY, NOTHING, EQUAL, NOTHING))
FULL_TURNING = steps(*[(TIMES, 1)] * 8)

NOT_RELATIONS = {
    "an empty list": [],
    "a condition alone": [0],
    "no way": [0, 0],
    "no output's turning": [0, 0, 0],
    "a number left over": [0, 0, 0, 0, 0],
    "a condition's k left out": [5, 0, 0, 0],
    "a k behind a condition that has none": [0, 1, 0, 0, 0],
    "a condition below the first one": [-1, 0, 0, 0],
    "a condition behind the last one": [6, 0, 0, 0],
    "a great condition": [GREAT, 0, 0, 0],
    "a condition far below": [-GREAT, 0, 0, 0],
    "a k below 0": [5, -1, 0, 0, 0],
    "a k above 9": [5, 10, 0, 0, 0],
    "a great k": [5, GREAT, 0, 0, 0],
    "a way below the first one": [0, 0, -1, 0],
    "a way behind the last one": [0, 0, 7, 0],
    "a great way": [0, 0, GREAT, 0],
    "an input's turning of nine steps": [0, 9] + [SORT] * 9 + [0, 0],
    "an output's turning of nine steps": [0, 0, 0, 9] + [SORT] * 9,
    "an input's turning with great many steps": [0, GREAT, 0, 0],
    "an output's turning with great many steps": [0, 0, 0, GREAT],
    "an input's turning with fewer than no steps": [0, -1, 0, 0],
    "an output's turning with fewer than no steps": [0, 0, 0, -1],
    "a step that isn't there": [0, 1, 18, 0, 0],
    "another step that isn't there": [0, 0, 0, 1, -1],
    "an input's turning without its value": [0, 1, ADD],
    "an output's turning without its value": [0, 0, 0, 1, ADD],
    "sixty numbers": [0] * 60,
}


class HeldIsWhole(Case):
    def test_relations(self):
        self.assert_answers([1, 0, 0, -1], held([0, 0, 0, 0]))
        self.assert_answers([1, 0, 0, -1], held(relation([AS_MANY, 0], FULL_TURNING, LONG, FULL_TURNING)))
        self.assert_answers([0, 0, 1, -1], held(relation([AS_MANY, 9], FULL_TURNING, LONG, FULL_TURNING)))

    def test_every_condition_and_every_way(self):
        for condition in (0, 2, 3, 4, [5, 0]):
            for way in range(7):
                self.assert_answers([1, 0, 0, -1], held(relation(condition, NOTHING, way, NOTHING)))

    def test_what_is_not_a_relation(self):
        for why, numbers in NOT_RELATIONS.items():
            with self.subTest(why):
                self.assert_refused(-1, held(numbers))

    def test_what_is_not_a_program_is_not_a_turning(self):
        for why, numbers in NOT_PROGRAMS.items():
            with self.subTest(why):
                self.assert_refused(-1, held([0, 0, 0] + numbers))

    def test_values_of_steps_within_and_outside(self):
        for number, (least, greatest) in IN_RANGE.items():
            for value in (least, greatest):
                turned = [1, number, value]
                self.assert_answers([1, 0, 0, -1], held(relation(ANY, turned, EQUAL, turned)))
            for value in (least - 1, greatest + 1, GREAT, -GREAT):
                self.assert_refused(-1, held(relation(ANY, [1, number, value], EQUAL, NOTHING)))
                self.assert_refused(-1, held(relation(ANY, NOTHING, EQUAL, [1, number, value])))


class TooManyInputs(Case):
    def test_one_hundred_and_fifty_are_not_too_many(self):
        told = family(several(ANY), several(NOTHING), several(NOTHING), ALL_WAYS)
        self.assertEqual([[150], [7], [150, 0, 0, -1], [7, 0, 1, 2, 3, 4, 5, 6]],
                         ask(bound(1, -49, 99), told, ALWAYS_KEPT, FOUND))

    def test_one_more_is_too_many(self):
        told = family(several(ANY), several(NOTHING), several(NOTHING), ALL_WAYS)
        self.assertEqual([[151], [7], [-7], [-7]], ask(bound(1, -50, 99), told, ALWAYS_KEPT, FOUND))

    def test_far_more(self):
        self.assertEqual([[1483], [-7], [-7]], ask(bound(2, 1, 38), ALWAYS_KEPT, FOUND))

    def test_longer_rows(self):
        self.assertEqual([[133], [133, 0, 0, -1], [0]], ask(bound(2, 0, 10), ALWAYS_KEPT, FOUND))
        self.assertEqual([[157], [-7], [-7]], ask(bound(2, 0, 11), ALWAYS_KEPT, FOUND))

    def test_found_is_refused_though_the_family_has_nothing(self):
        self.assertEqual([[0], [151], [-7]], ask(FOUND, bound(1, -50, 99), FOUND))

    def test_what_is_not_a_relation_is_looked_at_first(self):
        for why, numbers in NOT_RELATIONS.items():
            with self.subTest(why):
                self.assert_refused(-1, bound(1, -50, 99), held(numbers))

    def test_off_everywhere_is_too_many_all_the_same(self):
        asked = held(relation([AS_MANY, 9], steps(TWICE), EQUAL, NOTHING))
        self.assert_refused(-7, bound(1, -50, 99), asked)

    def test_what_is_told_is_taken_all_the_same(self):
        told = family(several(ANY), several(NOTHING), several(NOTHING), several(LONG))
        self.assertEqual([[151], [1], [-7], [2], [1, 0]], ask(bound(1, -50, 99), told, FOUND, bound(1, 0, 0), FOUND))

    def test_a_refusal_changes_nothing(self):
        told = family(several(ANY), several(NOTHING), several(NOTHING), several(LONG))
        self.assertEqual([[1], [-1], [1, 0], [1, 0, 0, -1]], ask(told, held([]), FOUND, ALWAYS_KEPT))
