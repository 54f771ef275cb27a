"""What is held, told as numbers again."""

from relationsfound.relations import CONDITION_WITH_COUNT
from relationsfound.rows import STEP_VALUES


def step_as_numbers(step):
    return [step[0]] if STEP_VALUES[step[0]] is None else [step[0], step[1]]


def program_as_numbers(program):
    numbers = [len(program)]
    for step in program:
        numbers.extend(step_as_numbers(step))
    return numbers


def condition_as_numbers(condition):
    return [condition[0], condition[1]] if condition[0] == CONDITION_WITH_COUNT else [condition[0]]


def relation_as_numbers(relation):
    numbers = condition_as_numbers(relation.condition)
    numbers.extend(program_as_numbers(relation.input_turning))
    numbers.append(relation.way)
    numbers.extend(program_as_numbers(relation.output_turning))
    return numbers
