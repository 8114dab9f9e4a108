"""The calls of the little language."""

from smalltongue.grammar import read_program
from smalltongue.refusals import NoProgram, NotRight, TooMuch
from smalltongue.refusals import NoStepsLeft, Outside, PartedByZero, TooManyCalls
from smalltongue.right import check_right
from smalltongue.run import Run, run_main
from smalltongue.scan import part

MOST_BYTES = 8192
MOST_TOKENS = 2048
MOST_FUNCTIONS = 32

TOO_MUCH = -28
NO_PROGRAM = -71
NOT_RIGHT = -22

PARTED_BY_ZERO = -33
OUTSIDE = -34
NO_STEPS_LEFT = -62
TOO_MANY_CALLS = -40


class Reading:
    # Either a refusal below 0, or 0 and what was read.
    def __init__(self, refusal, tokens, functions):
        self.refusal = refusal
        self.tokens = tokens
        self.functions = functions


def pr_read(t):
    reading = reading_of(t)
    if reading.refusal != 0:
        return [0, reading.refusal]
    return [1, len(reading.tokens), len(reading.functions)]


def pr_run(steps, t, g):
    reading = reading_of(t)
    if reading.refusal != 0:
        return [0, reading.refusal]
    run = Run(reading.functions, steps, g)
    ending = ending_of(run)
    answer = [2, len(run.record)]
    for entry in run.record:
        answer.extend(entry)
    return answer + ending


def reading_of(t):
    try:
        tokens = tokens_of(t)
        functions = functions_of(tokens)
    except TooMuch:
        return Reading(TOO_MUCH, [], [])
    except NoProgram:
        return Reading(NO_PROGRAM, [], [])
    except NotRight:
        return Reading(NOT_RIGHT, [], [])
    return Reading(0, tokens, functions)


def tokens_of(t):
    if len(t) > MOST_BYTES:
        raise TooMuch()
    tokens = part(t)
    if len(tokens) > MOST_TOKENS:
        raise TooMuch()
    return tokens


def functions_of(tokens):
    functions = read_program(tokens)
    if len(functions) > MOST_FUNCTIONS:
        raise TooMuch()
    check_right(functions)
    return functions


def ending_of(run):
    try:
        out = run_main(run)
    except PartedByZero:
        return [PARTED_BY_ZERO]
    except Outside:
        return [OUTSIDE]
    except NoStepsLeft:
        return [NO_STEPS_LEFT]
    except TooManyCalls:
        return [TOO_MANY_CALLS]
    return [0, out]
