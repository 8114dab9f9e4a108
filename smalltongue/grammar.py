"""Reads tokens as a program.

Of each function is kept what the rules of a right program ask about: its name, its
parameters, and its mentions, in the order of the text. A mention is a tuple:
    ("begin", "", 0) and ("end", "", 0)   a block's two ends
    ("let", name, 0)                      a variable is told
    ("use", name, 0)                      a variable is used or set
    ("call", name, count)                 a function is called with so many
"""

from smalltongue.refusals import NoProgram

MOST_PARAMETERS = 4
DEEPEST = 32


class Function:
    def __init__(self, name, parameters, mentions):
        self.name = name
        self.parameters = parameters
        self.mentions = mentions


class Reader:
    def __init__(self, tokens):
        self.tokens = tokens
        self.at = 0
        self.mentions = []

    def kind(self):
        if self.at < len(self.tokens):
            return self.tokens[self.at][0]
        return "nothing"

    def take(self, kind):
        if self.kind() != kind:
            raise NoProgram()
        spelled = self.tokens[self.at][1]
        self.at += 1
        return spelled

    def mention(self, how, name, count):
        self.mentions.append((how, name, count))


def deeper(deep):
    # Asked ahead of going in, so that the calls below never nest further than this.
    if deep == DEEPEST:
        raise NoProgram()
    return deep + 1


def read_program(tokens):
    reader = Reader(tokens)
    functions = [read_function(reader)]
    while reader.kind() != "nothing":
        functions.append(read_function(reader))
    return functions


def read_function(reader):
    reader.take("fn")
    name = reader.take("name")
    parameters = read_parameters(reader)
    reader.mentions = []
    read_block(reader, 1)
    return Function(name, parameters, reader.mentions)


def read_parameters(reader):
    parameters = []
    reader.take("(")
    if reader.kind() != ")":
        parameters.append(reader.take("name"))
        while reader.kind() == ",":
            reader.take(",")
            parameters.append(reader.take("name"))
    reader.take(")")
    if len(parameters) > MOST_PARAMETERS:
        raise NoProgram()
    return parameters


def read_block(reader, deep):
    reader.take("{")
    reader.mention("begin", "", 0)
    while reader.kind() != "}":
        read_statement(reader, deep)
    reader.take("}")
    reader.mention("end", "", 0)


def read_statement(reader, deep):
    kind = reader.kind()
    if kind == "let":
        read_let(reader, deep)
    elif kind == "name":
        read_named(reader, deep)
    elif kind == "return" or kind == "put":
        reader.take(kind)
        read_expr(reader, deep)
        reader.take(";")
    elif kind == "if":
        read_if(reader, deep)
    elif kind == "while":
        reader.take("while")
        read_expr(reader, deep)
        read_block(reader, deeper(deep))
    else:
        raise NoProgram()


def read_let(reader, deep):
    reader.take("let")
    name = reader.take("name")
    reader.take("=")
    read_expr(reader, deep)
    reader.take(";")
    # Mentioned last, for the variable is not there yet in its own let.
    reader.mention("let", name, 0)


def read_named(reader, deep):
    name = reader.take("name")
    if reader.kind() == "(":
        read_call(reader, name, deep)
    else:
        reader.take("=")
        read_expr(reader, deep)
        reader.mention("use", name, 0)
    reader.take(";")


def read_if(reader, deep):
    reader.take("if")
    read_expr(reader, deep)
    read_block(reader, deeper(deep))
    if reader.kind() == "else":
        reader.take("else")
        read_block(reader, deeper(deep))


def read_call(reader, name, deep):
    # The parentheses lie deeper themselves, even with nothing in them.
    inner = deeper(deep)
    count = 0
    reader.take("(")
    if reader.kind() != ")":
        read_expr(reader, inner)
        count = 1
        while reader.kind() == ",":
            reader.take(",")
            read_expr(reader, inner)
            count += 1
    reader.take(")")
    reader.mention("call", name, count)


def read_expr(reader, deep):
    read_sum(reader, deep)
    if reader.kind() in ("<", "=="):
        reader.take(reader.kind())
        read_sum(reader, deep)


def read_sum(reader, deep):
    read_term(reader, deep)
    while reader.kind() in ("+", "-"):
        reader.take(reader.kind())
        read_term(reader, deep)


def read_term(reader, deep):
    read_factor(reader, deep)
    while reader.kind() in ("*", "/", "rest"):
        reader.take(reader.kind())
        read_factor(reader, deep)


def read_factor(reader, deep):
    kind = reader.kind()
    if kind == "number" or kind == "get":
        reader.take(kind)
    elif kind == "name":
        read_name(reader, deep)
    elif kind == "-" or kind == "!":
        reader.take(kind)
        read_factor(reader, deeper(deep))
    else:
        reader.take("(")
        read_expr(reader, deeper(deep))
        reader.take(")")


def read_name(reader, deep):
    name = reader.take("name")
    if reader.kind() == "(":
        read_call(reader, name, deep)
    else:
        reader.mention("use", name, 0)
