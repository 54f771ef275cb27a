"""The fewest relations that still tell a program from other ones.

What counts of each other program is which of the relations it misses: those that it doesn't hold.
"""


def one_more_each(sets, numbers):
    """Each set with each greater number behind it: in order, if the sets and the numbers are."""
    greater_sets = []
    for chosen in sets:
        for number in numbers:
            if not chosen or number > chosen[-1]:
                greater_sets.append(chosen + [number])
    return greater_sets


def sets_in_order(numbers):
    """All sets of these rising numbers: smaller ones first, those as great by their first number, and so on."""
    as_great = [[]]
    sets = [[]]
    for size in range(len(numbers)):
        as_great = one_more_each(as_great, numbers)
        sets.extend(as_great)
    return sets


def has_one_of(chosen, missed):
    return any([number in chosen for number in missed])


def has_one_of_each(chosen, missed_by_each):
    return all([has_one_of(chosen, missed) for missed in missed_by_each])


def least_set(numbers, missed_by_each):
    # A program that misses nothing can't be told by any of the relations, and needn't be.
    to_tell = [missed for missed in missed_by_each if missed]
    telling = [chosen for chosen in sets_in_order(numbers) if has_one_of_each(chosen, to_tell)]
    return telling[0]
