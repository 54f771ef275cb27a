"""Families of relations, how these are numbered, and which of them a program holds."""

from relationsfound.relations import WAYS, which_fit
from relationsfound.rows import run_on_each

KEPT = 0
BROKEN = 1
OFF = 2


class Family:
    """All relations made of one of each; a relation by itself is a family of one."""

    def __init__(self, conditions, input_turnings, output_turnings, ways):
        self.conditions = conditions
        self.input_turnings = input_turnings
        self.output_turnings = output_turnings
        self.ways = ways


class Parts:
    """Where in their lists the parts of one of a family's relations stand."""

    def __init__(self, input_turning, output_turning, condition, way):
        self.input_turning = input_turning
        self.output_turning = output_turning
        self.condition = condition
        self.way = way


def how_many_relations(family):
    turnings = len(family.input_turnings) * len(family.output_turnings)
    return turnings * len(family.conditions) * len(family.ways)


def parts_of(family, number):
    """The way changes first from one number to the next, then the condition, the output's, the input's turning."""
    way = number % len(family.ways)
    number = number // len(family.ways)
    condition = number % len(family.conditions)
    number = number // len(family.conditions)
    output_turning = number % len(family.output_turnings)
    input_turning = number // len(family.output_turnings)
    return Parts(input_turning, output_turning, condition, way)


def verdict(is_fit, left, right, stands):
    if not is_fit or left is None or right is None:
        return OFF
    return KEPT if stands(left, right) else BROKEN


class Trial:
    """One program at all inputs: many relations share a side, so each side is made once."""

    def __init__(self, program, family, inputs):
        self.family = family
        self.fitting = [which_fit(condition, inputs) for condition in family.conditions]
        self.lefts = [run_on_each(program, run_on_each(turning, inputs)) for turning in family.input_turnings]
        outcomes = run_on_each(program, inputs)
        self.rights = [run_on_each(turning, outcomes) for turning in family.output_turnings]

    def verdicts(self, number):
        """Kept, broken or off, input by input, for the family's relation with this number."""
        parts = parts_of(self.family, number)
        fitting = self.fitting[parts.condition]
        lefts = self.lefts[parts.input_turning]
        rights = self.rights[parts.output_turning]
        stands = WAYS[self.family.ways[parts.way]]
        return [verdict(is_fit, left, right, stands) for is_fit, left, right in zip(fitting, lefts, rights)]

    def holds(self, number):
        verdicts = self.verdicts(number)
        return BROKEN not in verdicts and KEPT in verdicts


def held_relations(program, family, inputs):
    """The numbers of the family's relations that the program holds, rising."""
    trial = Trial(program, family, inputs)
    return [number for number in range(how_many_relations(family)) if trial.holds(number)]
