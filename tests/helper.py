"""What the tests of pr_read share: texts handed in as bytes, and the answers by name."""

from smalltongue.desk import pr_read

TOO_MUCH = [0, -28]
NO_PROGRAM = [0, -71]
NOT_RIGHT = [0, -22]

MAIN = "fn main() { } "


def read(text):
    return pr_read(list(text.encode("latin-1")))


def program(tokens, functions):
    return [1, tokens, functions]


def in_main(statements):
    return "fn main() { " + statements + " }"


def read_in_main(statements):
    return read(in_main(statements))
