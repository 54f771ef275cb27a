"""How the calls stand in the list that is handed in."""

# At a call's number stand how many whole numbers it has, and how many rows behind them.
SHAPES = (
    (0, 1),
    (3, 0),
    (0, 4),
    (0, 1),
    (0, 1),
    (0, 0),
    (0, 0),
    (1, 0),
    (2, 0),
    (1, 1),
    (2, 0),
    (0, 0),
)


class Call:
    """One call: its number, its whole numbers, its rows."""

    def __init__(self, number, values_told, rows_told):
        self.number = number
        self.values_told = values_told
        self.rows_told = rows_told


def read_call(reader):
    number = reader.take_number()
    shape = SHAPES[number]
    values_told = [reader.take_number() for place in range(shape[0])]
    rows_told = [reader.take_row() for place in range(shape[1])]
    return Call(number, values_told, rows_told)
