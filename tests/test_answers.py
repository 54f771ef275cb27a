"""The interface: how calls are told, how they are answered, and what is so at a list's beginning."""

import unittest

from relationsfound.calls import read_call
from relationsfound.finding import answers
from relationsfound.reading import Reader
from tests.telling import (
    ALL_WAYS, ANY, EQUAL, FOUND, GREAT, HAS, LEAST_SET, LONG, REVERSE, SORT, STRONGEST, SUM, Case, ask, bound, by,
    family, flat, follows, held, others, program, relation, says, several, steps, tell,
)

NOTHING = steps()
ALWAYS_KEPT = held(relation(ANY, NOTHING, EQUAL, NOTHING))


class AtTheBeginning(Case):
    def test_there_is_one_input_without_numbers(self):
        self.assert_answers([1, 0, 0, -1], ALWAYS_KEPT)
        self.assert_answers([0, 0, 1, -1], held(relation(HAS, NOTHING, EQUAL, NOTHING)))

    def test_the_program_has_no_steps(self):
        # With a step sum either side would have a number.
        self.assert_answers([1, 0, 0, -1], held(relation(ANY, steps(SORT), EQUAL, NOTHING)))
        self.assert_answers([0, 1, 0, 0], held(relation(ANY, steps(SUM), EQUAL, NOTHING)))
        self.assert_answers([1, 0, 0, -1], bound(0, 0, 0), program(steps(SUM)),
                            held(relation(ANY, steps(SUM), EQUAL, NOTHING)))

    def test_the_family_has_nothing(self):
        self.assert_answers([0], FOUND)
        self.assert_answers([0], bound(2, 0, 1), program(steps(SORT)), FOUND)
        self.assertEqual([[0], [0], [0]], ask(FOUND, STRONGEST, LEAST_SET))
        self.assertEqual([[-2], [-2], [-2], [-2]], ask(tell(0), says(0, 0), follows([], 0), by(0, 0)))

    def test_there_are_no_other_programs(self):
        told = family(several(ANY), several(NOTHING), several(NOTHING), several(EQUAL))
        self.assertEqual([[1], [-3], [1], [1, 0], [0]], ask(told, by(0, 0), follows([], 0), STRONGEST, LEAST_SET))

    def test_each_call_alone(self):
        self.assertEqual([1, 1], answers(program(steps(SORT))))
        self.assertEqual([1, 3], answers(bound(1, 0, 1)))
        self.assertEqual([1, 7], answers(family(several(ANY), several(NOTHING), several(NOTHING), ALL_WAYS)))
        self.assertEqual([1, 2], answers(others(several(NOTHING, steps(REVERSE)))))
        self.assertEqual([4, 1, 0, 0, -1], answers(ALWAYS_KEPT))
        self.assertEqual([1, 0], answers(FOUND))
        self.assertEqual([1, 0], answers(STRONGEST))
        self.assertEqual([1, 0], answers(LEAST_SET))

    def test_each_call_alone_refused(self):
        for refused in (program([]), bound(9, 0, 0), family([], [], [], []), others([]), held([])):
            self.assertEqual([1, -1], answers(refused))
        for refused in (tell(0), says(0, 0), follows([], 0), follows([0, 0], 0), by(0, 0)):
            self.assertEqual([1, -2], answers(refused))


class TheList(unittest.TestCase):
    CALLS = flat([
        program(steps(SORT)),
        bound(2, 0, 1),
        family(several(ANY), several(steps(REVERSE)), several(NOTHING), several(EQUAL, LONG)),
        others(several(NOTHING)),
        held(relation(ANY, NOTHING, EQUAL, steps(REVERSE))),
        held([0]),
        FOUND,
        STRONGEST,
        tell(1),
        says(0, 1),
        follows([1, 1], 0),
        by(0, 1),
        by(0, 2),
        LEAST_SET,
    ])
    ANSWERED = [1, 1, 1, 7, 1, 2, 1, 1, 4, 5, 2, 0, 4, 1, -1, 3, 2, 0, 1]
    ANSWERED += [2, 1, 0, 5, 0, 1, 5, 6, 0, 1, 1, 2, 0, 0, 1, 1, 1, -2, 2, 1, 0]

    def test_all_calls_in_order(self):
        self.assertEqual(self.ANSWERED, answers(self.CALLS))

    def test_a_second_time_knows_nothing_of_the_first_one(self):
        answers(self.CALLS)
        self.assertEqual([1, 0], answers(FOUND))
        self.assertEqual([4, 1, 0, 0, -1], answers(ALWAYS_KEPT))
        self.assertEqual([4, 0, 1, 0, 0], answers(held(relation(ANY, steps(SUM), EQUAL, NOTHING))))
        self.assertEqual(self.ANSWERED, answers(self.CALLS))

    def test_it_stays_as_it_was(self):
        handed_in = list(self.CALLS)
        answers(handed_in)
        self.assertEqual(self.CALLS, handed_in)

    def test_what_is_given_back_is_a_list_of_whole_numbers(self):
        given = answers(self.CALLS)
        self.assertIs(list, type(given))
        self.assertEqual({int}, {type(number) for number in given})

    def test_what_is_given_back_is_a_new_list_each_time(self):
        first = answers(self.CALLS)
        first.clear()
        self.assertEqual(self.ANSWERED, answers(self.CALLS))

    def test_twenty_five_calls(self):
        told = family(several(ANY), several(NOTHING), several(NOTHING), several(LONG, EQUAL))
        self.assertEqual([[2]] + [[2, 0, 1]] * 24, ask(told, *[FOUND] * 24))

    def test_a_call_behind_a_long_refused_row_is_read_where_it_stands(self):
        calls = [program([7] * 30), others([7] * 200), family([7] * 10, [7] * 100, [7] * 100, [7] * 10), held([7] * 60)]
        self.assertEqual([[-1]] * 4 + [[0]], ask(*calls, FOUND))


class NothingIsChanged(Case):
    """Whatever is asked or refused, what is told stays so."""

    TOLD = [
        program(steps(SORT)),
        bound(2, 0, 1),
        family(several(ANY, HAS), several(steps(REVERSE), NOTHING), several(NOTHING), several(EQUAL, LONG)),
        others(several(NOTHING, steps(SUM))),
    ]
    ASKED = [
        held(relation(ANY, NOTHING, EQUAL, steps(REVERSE))), FOUND, STRONGEST, tell(3), says(0, 3), follows([1], 0),
        by(0, 0), by(1, 0), LEAST_SET,
    ]
    ANSWERED = [[5, 2, 0, 4], [8, 0, 1, 2, 3, 4, 5, 6, 7], [2, 0, 4], [1, 1, 5, 6, 0], [1], [0, 0], [0], [1], [1, 0]]
    BETWEEN = ASKED + [
        follows([], 3), follows([0, 7, 0], 3), says(3, 0), tell(0), held([]), program([1]), bound(0, 1, 0), others([1]),
        family([0], [0], [0], [1]), tell(8), tell(-1), says(GREAT, 0), follows([8], 0), follows([], -1), by(0, 8),
        by(2, 0), by(-1, 0),
    ]

    def test_by_any_call(self):
        for call in self.BETWEEN:
            with self.subTest(call):
                answered = ask(*self.TOLD, call, *self.ASKED)
                self.assertEqual(self.ANSWERED, answered[-len(self.ASKED):])

    def test_by_too_many_inputs(self):
        for call in self.BETWEEN:
            with self.subTest(call):
                answered = ask(*self.TOLD, bound(1, -50, 99), call, bound(2, 0, 1), *self.ASKED)
                self.assertEqual(self.ANSWERED, answered[-len(self.ASKED):])


class AllTwelveCalls(unittest.TestCase):
    def test_how_they_are_read(self):
        told = [
            ([0, 2, 1, 5], [], [[1, 5]]),
            ([1, 2, -1, 1], [2, -1, 1], []),
            ([2, 2, 1, 0, 0, 1, 0, 3, 4, 5, 6], [], [[1, 0], [], [0], [4, 5, 6]]),
            ([3, 1, 0], [], [[0]]),
            ([4, 4, 0, 0, 0, 0], [], [[0, 0, 0, 0]]),
            ([5], [], []),
            ([6], [], []),
            ([7, 4], [4], []),
            ([8, 0, 2], [0, 2], []),
            ([9, 4, 2, 0, 1], [4], [[0, 1]]),
            ([10, 1, 0], [1, 0], []),
            ([11], [], []),
        ]
        reader = Reader(flat([numbers for numbers, values_told, rows_told in told]))
        for number, (numbers, values_told, rows_told) in enumerate(told):
            call = read_call(reader)
            self.assertEqual((number, values_told, rows_told), (call.number, call.values_told, call.rows_told))
        self.assertTrue(reader.is_done())
