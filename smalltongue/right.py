"""Tells whether a program that has been read is right."""

from smalltongue.refusals import NotRight

MOST_VARIABLES = 32


class Scope:
    # The variables that are there, and how many were there as each open block began.
    def __init__(self):
        self.names = []
        self.starts = []

    def begin_block(self):
        self.starts.append(len(self.names))

    def end_block(self):
        self.names = self.names[:self.starts.pop()]

    def tell(self, name):
        if name in self.names or len(self.names) == MOST_VARIABLES:
            raise NotRight()
        self.names.append(name)

    def use(self, name):
        if name not in self.names:
            raise NotRight()


def check_right(functions):
    counts = parameter_counts(functions)
    if "main" not in counts or counts["main"] != 0:
        raise NotRight()
    for function in functions:
        check_function(function, counts)


def parameter_counts(functions):
    counts = {}
    for function in functions:
        if function.name in counts:
            raise NotRight()
        counts[function.name] = len(function.parameters)
    return counts


def check_function(function, counts):
    scope = Scope()
    for name in function.parameters:
        scope.tell(name)
    for how, name, count in function.orders:
        if how == "begin":
            scope.begin_block()
        elif how == "end":
            scope.end_block()
        elif how == "let":
            scope.tell(name)
        elif how == "use" or how == "set":
            scope.use(name)
        elif how == "call":
            check_call(name, count, counts)


def check_call(name, count, counts):
    if name not in counts or counts[name] != count:
        raise NotRight()
