"""The errors by which a text is refused or a run is stopped, one for each number that is answered."""


class TooMuch(Exception):
    pass


class NoProgram(Exception):
    pass


class NotRight(Exception):
    pass


class PartedByZero(Exception):
    pass


class Outside(Exception):
    pass


class NoStepsLeft(Exception):
    pass


class TooManyCalls(Exception):
    pass
