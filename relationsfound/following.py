"""Which relations follow from which, and which are strongest."""

from relationsfound.families import relation_of
from relationsfound.relations import CONDITION_ANY, CONDITION_HAS_NUMBERS, CONDITION_WITH_COUNT

# At a way's number stand the ways that follow from it.
WAYS_THAT_FOLLOW = (
    (0, 1, 2, 3, 4, 5, 6),
    (1, 2, 6),
    (2,),
    (3, 6),
    (4, 6),
    (5,),
    (6,),
)


def fewest_asked(condition):
    """How many numbers a row must have, if the condition asks for nothing else; None, if it does."""
    if condition[0] == CONDITION_ANY:
        return 0
    if condition[0] == CONDITION_HAS_NUMBERS:
        return 1
    if condition[0] == CONDITION_WITH_COUNT:
        return condition[1]
    return None


def is_no_wider(condition, other):
    # Any and has numbers are as wide as 0 or more and 1 or more: so all four are weighed by how many they ask for.
    if condition == other:
        return True
    fewest = fewest_asked(condition)
    fewest_of_other = fewest_asked(other)
    if fewest_of_other is None:
        return False
    return fewest_of_other == 0 or (fewest is not None and fewest_of_other <= fewest)


def has_same_turnings(relation, other):
    return relation.input_turning == other.input_turning and relation.output_turning == other.output_turning


def follows_from(relation, other):
    if not has_same_turnings(relation, other):
        return False
    return relation.way in WAYS_THAT_FOLLOW[other.way] and is_no_wider(relation.condition, other.condition)


def gives_way(number, other_number, relations):
    """Whether the relation isn't strongest beside the other one."""
    relation = relations[number]
    other = relations[other_number]
    if not follows_from(relation, other):
        return False
    # Of two that follow from each other the lesser number counts; beside itself none gives way.
    return other_number < number or not follows_from(other, relation)


def is_strongest(number, relations):
    for other_number in relations:
        if gives_way(number, other_number, relations):
            return False
    return True


def strongest_of(family, numbers):
    """Those of the family's relations with these numbers that are strongest, in their order."""
    relations = {}
    for number in numbers:
        relations[number] = relation_of(family, number)
    return [number for number in numbers if is_strongest(number, relations)]
