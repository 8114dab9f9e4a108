"""Runs a right program: works its functions' orders off, one after another.

The calls that are under way and the numbers that wait to be used are kept in rows
and gone through by one loop, so that no run nests Python's own calls.
"""

from smalltongue.reckon import reckon_one, reckon_two
from smalltongue.refusals import NoStepsLeft, TooManyCalls

MOST_CALLS = 64

ASKED = 0
TOLD = 1


class Call:
    def __init__(self, orders):
        self.orders = orders
        self.at = 0
        self.variables = {}


class Run:
    def __init__(self, functions, steps, g):
        self.functions = by_name(functions)
        self.steps_left = steps
        self.g = g
        self.gets = 0
        self.record = []
        self.calls = []
        self.waiting = []


def by_name(functions):
    named = {}
    for function in functions:
        named[function.name] = function
    return named


def run_main(run):
    begin_call(run, "main")
    while len(run.calls) > 0:
        call = run.calls[-1]
        order = call.orders[call.at]
        call.at += 1
        work_off(run, call, order)
    return run.waiting.pop()


def work_off(run, call, order):
    how = order[0]
    if how == "step":
        begin_statement(run)
    elif how == "call":
        begin_call(run, order[1])
    elif how == "return":
        # The number that it ends with goes on waiting, for the call that's below.
        run.calls.pop()
    elif how == "let" or how == "set":
        call.variables[order[1]] = run.waiting.pop()
    elif how == "put":
        run.record.append((TOLD, run.waiting.pop()))
    elif how == "forget":
        run.waiting.pop()
    elif how == "go":
        call.at = order[2]
    elif how == "unless":
        if run.waiting.pop() == 0:
            call.at = order[2]
    elif how != "begin" and how != "end":
        run.waiting.append(number_of(run, call, order))


def number_of(run, call, order):
    how = order[0]
    if how == "number":
        return order[2]
    if how == "use":
        return call.variables[order[1]]
    if how == "get":
        return ask(run)
    if how == "one":
        return reckon_one(order[1], run.waiting.pop())
    right = run.waiting.pop()
    left = run.waiting.pop()
    return reckon_two(order[1], left, right)


def begin_statement(run):
    if run.steps_left == 0:
        raise NoStepsLeft()
    run.steps_left -= 1


def begin_call(run, name):
    if len(run.calls) == MOST_CALLS:
        raise TooManyCalls()
    function = run.functions[name]
    call = Call(function.orders)
    # What it's called with waits in the order of the text, so the last is on top.
    for parameter in reversed(function.parameters):
        call.variables[parameter] = run.waiting.pop()
    run.calls.append(call)


def ask(run):
    number = 0
    if len(run.g) > 0:
        number = run.g[run.gets % len(run.g)]
    run.gets += 1
    run.record.append((ASKED, number))
    return number
