"""The calls on one object, and what they answer."""

from relationsfound.bounds import Bound, bound_as_told, how_many_inputs, inputs_in_order
from relationsfound.calls import read_call
from relationsfound.families import Family, how_many_relations, relation_of
from relationsfound.following import follows_from, strongest_of
from relationsfound.least_sets import least_set
from relationsfound.reading import Reader, read_conditions, read_others, read_program, read_relation
from relationsfound.reading import read_turnings, read_ways, read_whole
from relationsfound.refusals import NoSuchProgram, NoSuchRelation, NotAsTold, TooManyInputs, TooManyStrongest
from relationsfound.trials import BROKEN, KEPT, OFF, Trial, held_relations
from relationsfound.writing import relation_as_numbers

MOST_INPUTS_TRIED = 150
MOST_STRONGEST = 10


class Told:
    """The one object: what has been told so far."""

    def __init__(self):
        self.program = ()
        self.bound = Bound(0, 0, 0)
        self.family = Family([], [], [], [])
        self.others = []


def inputs_tried(told):
    if how_many_inputs(told.bound) > MOST_INPUTS_TRIED:
        raise TooManyInputs()
    return inputs_in_order(told.bound)


def relation_numbered(told, number):
    if number < 0 or number >= how_many_relations(told.family):
        raise NoSuchRelation()
    return relation_of(told.family, number)


def other_numbered(told, number):
    if number < 0 or number >= len(told.others):
        raise NoSuchProgram()
    return told.others[number]


def found_now(told):
    return held_relations(told.program, told.family, inputs_tried(told))


def strongest_now(told):
    return strongest_of(told.family, found_now(told))


def with_count(numbers):
    return [len(numbers)] + numbers


def one_if(is_so):
    return [1 if is_so else 0]


def answer_program(told, call):
    told.program = read_whole(call.rows_told[0], read_program)
    return [len(told.program)]


def answer_bound(told, call):
    told.bound = bound_as_told(call.values_told[0], call.values_told[1], call.values_told[2])
    return [how_many_inputs(told.bound)]


def answer_family(told, call):
    conditions = read_whole(call.rows_told[0], read_conditions)
    input_turnings = read_whole(call.rows_told[1], read_turnings)
    output_turnings = read_whole(call.rows_told[2], read_turnings)
    ways = read_whole(call.rows_told[3], read_ways)
    told.family = Family(conditions, input_turnings, output_turnings, ways)
    return [how_many_relations(told.family)]


def answer_others(told, call):
    told.others = read_whole(call.rows_told[0], read_others)
    return [len(told.others)]


def answer_held(told, call):
    relation = read_whole(call.rows_told[0], read_relation)
    verdicts = Trial(told.program, inputs_tried(told)).verdicts(relation)
    first_broken = verdicts.index(BROKEN) if BROKEN in verdicts else -1
    return [verdicts.count(KEPT), verdicts.count(BROKEN), verdicts.count(OFF), first_broken]


def answer_found(told, call):
    return with_count(found_now(told))


def answer_strongest(told, call):
    return with_count(strongest_now(told))


def answer_relation(told, call):
    return relation_as_numbers(relation_numbered(told, call.values_told[0]))


def answer_says(told, call):
    stronger = relation_numbered(told, call.values_told[0])
    weaker = relation_numbered(told, call.values_told[1])
    return one_if(follows_from(weaker, stronger))


def answer_follows(told, call):
    asked = relation_numbered(told, call.values_told[0])
    given = [relation_numbered(told, number) for number in call.rows_told[0]]
    inputs = inputs_tried(told)
    for number, program in enumerate(told.others):
        trial = Trial(program, inputs)
        if not trial.holds(asked) and trial.holds_all(given):
            return [0, number]
    return [1]


def answer_by(told, call):
    # The relation is looked at ahead of the program, though it's told behind it.
    relation = relation_numbered(told, call.values_told[1])
    program = other_numbered(told, call.values_told[0])
    return one_if(Trial(program, inputs_tried(told)).holds(relation))


def missed_of(told, numbers, program):
    """Those of the family's relations with these numbers that the program doesn't hold."""
    trial = Trial(program, inputs_tried(told))
    return [number for number in numbers if not trial.holds(relation_of(told.family, number))]


def answer_least(told, call):
    strongest = strongest_now(told)
    if len(strongest) > MOST_STRONGEST:
        raise TooManyStrongest()
    missed_by_each = [missed_of(told, strongest, program) for program in told.others]
    return with_count(least_set(strongest, missed_by_each))


# At a call's number stands what answers it.
ANSWERS = (
    answer_program,
    answer_bound,
    answer_family,
    answer_others,
    answer_held,
    answer_found,
    answer_strongest,
    answer_relation,
    answer_says,
    answer_follows,
    answer_by,
    answer_least,
)


def answer_or_refusal(told, call):
    find_answer = ANSWERS[call.number]
    try:
        return find_answer(told, call)
    except NotAsTold:
        return [-1]
    except NoSuchRelation:
        return [-2]
    except NoSuchProgram:
        return [-3]
    except TooManyStrongest:
        return [-6]
    except TooManyInputs:
        return [-7]


def answers(calls):
    """For each call how many numbers are answered, and these."""
    reader = Reader(calls)
    told = Told()
    answered = []
    while not reader.is_done():
        answer = answer_or_refusal(told, read_call(reader))
        answered.append(len(answer))
        answered.extend(answer)
    return answered
