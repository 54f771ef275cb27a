"""What a call is refused for: one error class for each number that is answered then."""


class NotAsTold(Exception):
    """The numbers aren't whole what the call asks for: -1."""


class NoSuchRelation(Exception):
    """The family has no relation with a number that is told: -2."""


class NoSuchProgram(Exception):
    """There is no other program with the number that is told: -3."""


class TooManyStrongest(Exception):
    """More relations are strongest than a least set is looked for among: -6."""


class TooManyInputs(Exception):
    """The bound has more inputs than relations are tried at: -7."""
