"""Where a program keeps a relation, where it breaks it, and which relations it holds."""

from relationsfound.families import how_many_relations, relation_of
from relationsfound.relations import WAYS, which_fit
from relationsfound.rows import run_on_each

KEPT = 0
BROKEN = 1
OFF = 2


def verdict(is_fit, left, right, stands):
    if not is_fit or left is None or right is None:
        return OFF
    return KEPT if stands(left, right) else BROKEN


class Trial:
    """One program at all inputs: many relations share a side or a condition, so each is gone through once."""

    def __init__(self, program, inputs):
        self.program = program
        self.inputs = inputs
        self.outcomes = run_on_each(program, inputs)
        self.lefts = {}
        self.rights = {}
        self.fits = {}

    def left_sides(self, turning):
        if turning not in self.lefts:
            self.lefts[turning] = run_on_each(self.program, run_on_each(turning, self.inputs))
        return self.lefts[turning]

    def right_sides(self, turning):
        if turning not in self.rights:
            self.rights[turning] = run_on_each(turning, self.outcomes)
        return self.rights[turning]

    def fitting(self, condition):
        if condition not in self.fits:
            self.fits[condition] = which_fit(condition, self.inputs)
        return self.fits[condition]

    def verdicts(self, relation):
        """Kept, broken or off, input by input."""
        fitting = self.fitting(relation.condition)
        lefts = self.left_sides(relation.input_turning)
        rights = self.right_sides(relation.output_turning)
        stands = WAYS[relation.way]
        return [verdict(is_fit, left, right, stands) for is_fit, left, right in zip(fitting, lefts, rights)]

    def holds(self, relation):
        verdicts = self.verdicts(relation)
        return BROKEN not in verdicts and KEPT in verdicts

    def holds_all(self, relations):
        for relation in relations:
            if not self.holds(relation):
                return False
        return True


def held_relations(program, family, inputs):
    """The numbers of the family's relations that the program holds, rising."""
    trial = Trial(program, inputs)
    return [number for number in range(how_many_relations(family)) if trial.holds(relation_of(family, number))]
