"""The calls on one object, and what they answer."""

from relationsfound.bounds import Bound, bound_as_told, how_many_inputs, inputs_in_order
from relationsfound.calls import read_call
from relationsfound.families import BROKEN, KEPT, OFF, Family, Trial, held_relations, how_many_relations
from relationsfound.reading import Reader, read_conditions, read_others, read_program, read_relation
from relationsfound.reading import read_turnings, read_ways, read_whole
from relationsfound.refusals import NotAsTold, TooManyInputs

MOST_INPUTS_TRIED = 150


class NotWrittenYet(Exception):
    """The call is read, but there is no answer to it yet."""


class Told:
    """The one object: what has been told so far."""

    def __init__(self):
        self.program = []
        self.bound = Bound(0, 0, 0)
        self.family = Family([], [], [], [])
        self.others = []


def inputs_tried(told):
    if how_many_inputs(told.bound) > MOST_INPUTS_TRIED:
        raise TooManyInputs()
    return inputs_in_order(told.bound)


def answer_program(told, call):
    told.program = read_whole(call.rows_told[0], read_program)
    return [len(told.program)]


def answer_bound(told, call):
    told.bound = bound_as_told(call.values_told[0], call.values_told[1], call.values_told[2])
    return [how_many_inputs(told.bound)]


def answer_family(told, call):
    conditions = read_whole(call.rows_told[0], read_conditions)
    input_turnings = read_whole(call.rows_told[1], read_turnings)
    output_turnings = read_whole(call.rows_told[2], read_turnings)
    ways = read_whole(call.rows_told[3], read_ways)
    told.family = Family(conditions, input_turnings, output_turnings, ways)
    return [how_many_relations(told.family)]


def answer_others(told, call):
    told.others = read_whole(call.rows_told[0], read_others)
    return [len(told.others)]


def answer_held(told, call):
    relation = read_whole(call.rows_told[0], read_relation)
    verdicts = Trial(told.program, relation, inputs_tried(told)).verdicts(0)
    first_broken = verdicts.index(BROKEN) if BROKEN in verdicts else -1
    return [verdicts.count(KEPT), verdicts.count(BROKEN), verdicts.count(OFF), first_broken]


def answer_found(told, call):
    found = held_relations(told.program, told.family, inputs_tried(told))
    return [len(found)] + found


# At a call's number stands what answers it.
ANSWERS = (answer_program, answer_bound, answer_family, answer_others, answer_held, answer_found)


def answer_or_refusal(told, call):
    number = call.number
    if number >= len(ANSWERS):
        raise NotWrittenYet(f"call {number}")
    find_answer = ANSWERS[number]
    try:
        return find_answer(told, call)
    except NotAsTold:
        return [-1]
    except TooManyInputs:
        return [-7]


def answers(calls):
    """For each call how many numbers are answered, and these."""
    reader = Reader(calls)
    told = Told()
    answered = []
    while not reader.is_done():
        answer = answer_or_refusal(told, read_call(reader))
        answered.append(len(answer))
        answered.extend(answer)
    return answered
