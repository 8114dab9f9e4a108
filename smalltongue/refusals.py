"""The errors by which a text is refused, one for each number that is answered."""


class TooMuch(Exception):
    pass


class NoProgram(Exception):
    pass


class NotRight(Exception):
    pass
