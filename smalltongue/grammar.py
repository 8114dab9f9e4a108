"""Reads tokens as a program.

Of each function is kept its name, its parameters, and its orders: what is to be
worked off, one after another. The rules of a right program are asked of them, too.
They stand in the order of the text, a sign behind what it reckons with, as that is
worked out from left to right. A number that's worked out waits until it's used, and
the one that waits shortest is used first. An order is a tuple of three:
    ("begin", "", 0) and ("end", "", 0)   a block's two ends
    ("step", "", 0)                       a statement is begun
    ("let", name, 0)                      a variable is told, and set to a number
    ("set", name, 0)                      a variable is set to a number
    ("use", name, 0)                      a variable's number
    ("number", "", number)                a number that's written
    ("get", "", 0)                        a number that's asked for
    ("one", sign, 0)                      - or ! of one number
    ("two", sign, 0)                      a sign between two numbers
    ("call", name, count)                 a function is called with so many
    ("forget", "", 0)                     what a call ended with is not used
    ("put", "", 0)                        a number is told
    ("return", "", 0)                     the function ends with a number
    ("unless", "", place)                 if a number is 0, go on at that place
    ("go", "", place)                     go on at that place
"""

from smalltongue.refusals import NoProgram

MOST_PARAMETERS = 4
DEEPEST = 32


class Function:
    def __init__(self, name, parameters, orders):
        self.name = name
        self.parameters = parameters
        self.orders = orders


class Reader:
    def __init__(self, tokens):
        self.tokens = tokens
        self.at = 0
        self.orders = []

    def kind(self):
        if self.at < len(self.tokens):
            return self.tokens[self.at][0]
        return "nothing"

    def take(self, kind):
        if self.kind() != kind:
            raise NoProgram()
        spelled = self.tokens[self.at][1]
        self.at += 1
        return spelled

    def order(self, how, name, number):
        self.orders.append((how, name, number))

    def order_jump(self, how):
        # Where it leads isn't known yet: land_here says it, by the place given back.
        self.order(how, "", 0)
        return len(self.orders) - 1

    def land_here(self, place):
        self.orders[place] = (self.orders[place][0], "", len(self.orders))


def deeper(deep):
    # Asked ahead of going in, so that the calls below never nest further than this.
    if deep == DEEPEST:
        raise NoProgram()
    return deep + 1


def read_program(tokens):
    reader = Reader(tokens)
    functions = [read_function(reader)]
    while reader.kind() != "nothing":
        functions.append(read_function(reader))
    return functions


def read_function(reader):
    reader.take("fn")
    name = reader.take("name")
    parameters = read_parameters(reader)
    reader.orders = []
    read_block(reader, 1)
    # Only a function that comes to its end gets as far as this.
    reader.order("number", "", 0)
    reader.order("return", "", 0)
    return Function(name, parameters, reader.orders)


def read_parameters(reader):
    parameters = []
    reader.take("(")
    if reader.kind() != ")":
        parameters.append(reader.take("name"))
        while reader.kind() == ",":
            reader.take(",")
            parameters.append(reader.take("name"))
    reader.take(")")
    if len(parameters) > MOST_PARAMETERS:
        raise NoProgram()
    return parameters


def read_block(reader, deep):
    reader.take("{")
    reader.order("begin", "", 0)
    while reader.kind() != "}":
        read_statement(reader, deep)
    reader.take("}")
    reader.order("end", "", 0)


def read_statement(reader, deep):
    start = len(reader.orders)
    reader.order("step", "", 0)
    kind = reader.kind()
    if kind == "let":
        read_let(reader, deep)
    elif kind == "name":
        read_named(reader, deep)
    elif kind == "return" or kind == "put":
        reader.take(kind)
        read_expr(reader, deep)
        reader.take(";")
        reader.order(kind, "", 0)
    elif kind == "if":
        read_if(reader, deep)
    elif kind == "while":
        read_while(reader, deep, start)
    else:
        raise NoProgram()


def read_let(reader, deep):
    reader.take("let")
    name = reader.take("name")
    reader.take("=")
    read_expr(reader, deep)
    reader.take(";")
    # Ordered last, for the variable is not there yet in its own let.
    reader.order("let", name, 0)


def read_named(reader, deep):
    name = reader.take("name")
    if reader.kind() == "(":
        read_call(reader, name, deep)
        reader.order("forget", "", 0)
    else:
        reader.take("=")
        read_expr(reader, deep)
        reader.order("set", name, 0)
    reader.take(";")


def read_if(reader, deep):
    reader.take("if")
    read_expr(reader, deep)
    past_first = reader.order_jump("unless")
    read_block(reader, deeper(deep))
    if reader.kind() == "else":
        reader.take("else")
        past_second = reader.order_jump("go")
        reader.land_here(past_first)
        read_block(reader, deeper(deep))
        reader.land_here(past_second)
    else:
        reader.land_here(past_first)


def read_while(reader, deep, start):
    reader.take("while")
    read_expr(reader, deep)
    past = reader.order_jump("unless")
    read_block(reader, deeper(deep))
    # Back to its step, for a while is begun anew each time.
    reader.order("go", "", start)
    reader.land_here(past)


def read_call(reader, name, deep):
    # The parentheses lie deeper themselves, even with nothing in them.
    inner = deeper(deep)
    count = 0
    reader.take("(")
    if reader.kind() != ")":
        read_expr(reader, inner)
        count = 1
        while reader.kind() == ",":
            reader.take(",")
            read_expr(reader, inner)
            count += 1
    reader.take(")")
    reader.order("call", name, count)


def read_expr(reader, deep):
    read_sum(reader, deep)
    if reader.kind() in ("<", "=="):
        sign = reader.take(reader.kind())
        read_sum(reader, deep)
        reader.order("two", sign, 0)


def read_sum(reader, deep):
    read_term(reader, deep)
    while reader.kind() in ("+", "-"):
        sign = reader.take(reader.kind())
        read_term(reader, deep)
        reader.order("two", sign, 0)


def read_term(reader, deep):
    read_factor(reader, deep)
    while reader.kind() in ("*", "/", "rest"):
        sign = reader.take(reader.kind())
        read_factor(reader, deep)
        reader.order("two", sign, 0)


def read_factor(reader, deep):
    kind = reader.kind()
    if kind == "number":
        reader.order("number", "", int(reader.take("number")))
    elif kind == "get":
        reader.take("get")
        reader.order("get", "", 0)
    elif kind == "name":
        read_name(reader, deep)
    elif kind == "-" or kind == "!":
        reader.take(kind)
        read_factor(reader, deeper(deep))
        reader.order("one", kind, 0)
    else:
        reader.take("(")
        read_expr(reader, deeper(deep))
        reader.take(")")


def read_name(reader, deep):
    name = reader.take("name")
    if reader.kind() == "(":
        read_call(reader, name, deep)
    else:
        reader.order("use", name, 0)
