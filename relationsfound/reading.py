"""What is told as numbers, read number by number; what isn't as told is refused."""

from relationsfound.refusals import NotAsTold
from relationsfound.relations import CONDITION_WITH_COUNT, CONDITIONS, GREATEST_COUNT, WAYS, Relation
from relationsfound.rows import STEP_VALUES, STEPS

MOST_STEPS = 8
MOST_OTHERS = 8
MOST_CONDITIONS = 3
MOST_TURNINGS = 4
MOST_WAYS = 7


class Reader:
    """A list of numbers, and how far it has been read; the list itself is left as it is."""

    def __init__(self, numbers):
        self.numbers = numbers
        self.place = 0

    def is_done(self):
        return self.place == len(self.numbers)

    def take_number(self):
        if self.is_done():
            raise NotAsTold()
        number = self.numbers[self.place]
        self.place += 1
        return number

    def take_within(self, least, greatest):
        number = self.take_number()
        if number < least or number > greatest:
            raise NotAsTold()
        return number

    def take_row(self):
        """Numbers with how many they are ahead."""
        count = self.take_number()
        return [self.take_number() for place in range(count)]


def read_several(reader, most, read_one):
    count = reader.take_within(0, most)
    return [read_one(reader) for place in range(count)]


def read_step(reader):
    number = reader.take_within(0, len(STEPS) - 1)
    limits = STEP_VALUES[number]
    if limits is None:
        return (number, 0)
    return (number, reader.take_within(limits[0], limits[1]))


def read_program(reader):
    return tuple(read_several(reader, MOST_STEPS, read_step))


def read_condition(reader):
    number = reader.take_within(0, len(CONDITIONS) - 1)
    if number == CONDITION_WITH_COUNT:
        return (number, reader.take_within(0, GREATEST_COUNT))
    return (number, 0)


def read_way(reader):
    return reader.take_within(0, len(WAYS) - 1)


def read_others(reader):
    return read_several(reader, MOST_OTHERS, read_program)


def read_conditions(reader):
    return read_several(reader, MOST_CONDITIONS, read_condition)


def read_turnings(reader):
    return read_several(reader, MOST_TURNINGS, read_program)


def read_ways(reader):
    return read_several(reader, MOST_WAYS, read_way)


def read_relation(reader):
    condition = read_condition(reader)
    input_turning = read_program(reader)
    way = read_way(reader)
    output_turning = read_program(reader)
    return Relation(condition, input_turning, way, output_turning)


def read_whole(numbers, read_thing):
    """The thing that the numbers tell, if they tell it and nothing behind it."""
    reader = Reader(numbers)
    thing = read_thing(reader)
    if not reader.is_done():
        raise NotAsTold()
    return thing
