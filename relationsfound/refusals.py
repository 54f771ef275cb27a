"""What a call is refused for: one error class for each number that is answered then."""


class NotAsTold(Exception):
    """The numbers aren't whole what the call asks for: -1."""


class TooManyInputs(Exception):
    """The bound has more inputs than relations are tried at: -7."""
