"""Families of relations, and how these are numbered."""

from relationsfound.relations import Relation


class Family:
    """All relations made of one of each."""

    def __init__(self, conditions, input_turnings, output_turnings, ways):
        self.conditions = conditions
        self.input_turnings = input_turnings
        self.output_turnings = output_turnings
        self.ways = ways


def how_many_relations(family):
    turnings = len(family.input_turnings) * len(family.output_turnings)
    return turnings * len(family.conditions) * len(family.ways)


def relation_of(family, number):
    """The way changes first from one number to the next, then the condition, the output's, the input's turning."""
    way = family.ways[number % len(family.ways)]
    number = number // len(family.ways)
    condition = family.conditions[number % len(family.conditions)]
    number = number // len(family.conditions)
    output_turning = family.output_turnings[number % len(family.output_turnings)]
    input_turning = family.input_turnings[number // len(family.output_turnings)]
    return Relation(condition, input_turning, way, output_turning)
