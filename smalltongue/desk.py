"""The calls of the little language."""

from smalltongue.grammar import read_program
from smalltongue.refusals import NoProgram, NotRight, TooMuch
from smalltongue.right import check_right
from smalltongue.scan import part

MOST_BYTES = 8192
MOST_TOKENS = 2048
MOST_FUNCTIONS = 32

TOO_MUCH = -28
NO_PROGRAM = -71
NOT_RIGHT = -22


def pr_read(t):
    try:
        tokens = tokens_of(t)
        functions = functions_of(tokens)
    except TooMuch:
        return [0, TOO_MUCH]
    except NoProgram:
        return [0, NO_PROGRAM]
    except NotRight:
        return [0, NOT_RIGHT]
    return [1, len(tokens), len(functions)]


def tokens_of(t):
    if len(t) > MOST_BYTES:
        raise TooMuch()
    tokens = part(t)
    if len(tokens) > MOST_TOKENS:
        raise TooMuch()
    return tokens


def functions_of(tokens):
    functions = read_program(tokens)
    if len(functions) > MOST_FUNCTIONS:
        raise TooMuch()
    check_right(functions)
    return functions
