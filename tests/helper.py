"""What the tests share: texts handed in as bytes, and the answers by name."""

from smalltongue.desk import pr_read, pr_run

TOO_MUCH = [0, -28]
NO_PROGRAM = [0, -71]
NOT_RIGHT = [0, -22]

PARTED_BY_ZERO = -33
OUTSIDE = -34
NO_STEPS_LEFT = -62
TOO_MANY_CALLS = -40

LEAST = -9223372036854775808
MOST = 9223372036854775807

MAIN = "fn main() { } "


def bytes_of(text):
    return list(text.encode("latin-1"))


def read(text):
    return pr_read(bytes_of(text))


def program(tokens, functions):
    return [1, tokens, functions]


def in_main(statements):
    return "fn main() { " + statements + " }"


def read_in_main(statements):
    return read(in_main(statements))


def run(text, g=(), steps=400):
    return pr_run(steps, bytes_of(text), list(g))


def run_in_main(statements, g=(), steps=400):
    return run(in_main(statements), g, steps)


def asked(number):
    return [0, number]


def told(number):
    return [1, number]


def ended(record, out):
    return [2, len(record)] + sum(record, []) + [0, out]


def stopped(record, code):
    return [2, len(record)] + sum(record, []) + [code]
