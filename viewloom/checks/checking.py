"""Checks programs that were read."""

from viewloom.checks.names import parts_of
from viewloom.checks.scopes import Scope
from viewloom.errors import InvalidProgram
from viewloom.values.plain import members_of_all, size, wholes_in

LARGEST_STORE = 2000
MOST_MEMBERS = 200
MOST_NAMES = 20
MOST_HANDLERS = 20
MOST_EFFECTS = 10


def is_sound(program):
    """Returns whether a program has no fault."""
    checker = Checker(program)
    try:
        checker.check()
    except InvalidProgram:
        return False
    return True


def has_long_list(value):
    """Returns whether the value of a constant is a list of too many members, or has one in it."""
    wholes = wholes_in([value])
    while wholes:
        if any([isinstance(whole, list) and len(whole) > MOST_MEMBERS for whole in wholes]):
            return True
        wholes = wholes_in(members_of_all(wholes))
    return False


def has_too_many_parts(component):
    """Returns whether a component has more names, handlers or effects than it can have."""
    lines = ("parameters", "contexts", "cells", "definitions")
    if sum([len(component[line]) for line in lines]) > MOST_NAMES:
        return True
    return len(component["handlers"]) > MOST_HANDLERS or len(component["effects"]) > MOST_EFFECTS


class Checker:
    """A program, and what is known of the component that is being checked."""

    FUNCTIONS = (
        ("length", 1), ("text", 1), ("number", 1), ("slice", 3), ("find", 2), ("get", 3), ("join", 2), ("split", 2),
        ("keys", 1), ("sorted", 1), ("range", 1), ("rest", 2), ("min", 2), ("max", 2),
    )

    def __init__(self, program):
        self.program = program
        self.counts = dict(self.FUNCTIONS)
        self.stores = Scope()
        # Of several components with one name, the first one counts.
        self.parameters = {}
        self.contexts = {}
        # The name of the present component, empty for the stores, and the names of its cells and handlers.
        self.owner = ""
        self.cells = {}
        self.handlers = {}

    def check(self):
        """Raises InvalidProgram for the fault of the program, if it has one."""
        self.owner = ""
        self.stores = Scope()
        for name, value in self.program["stores"]:
            self.check_store(name, value)
        for component in self.program["components"]:
            self.parameters.setdefault(component["name"], component["parameters"])
            for name in component["contexts"]:
                self.contexts[name] = True
        earlier = Scope()
        for component in self.program["components"]:
            self.owner = component["name"]
            self.declare(earlier, self.owner)
            self.check_component(component)

    def fail(self, message):
        """Raises the fault of the present component."""
        raise InvalidProgram(self.owner, message)

    def declare(self, scope, name):
        """Declares a name in a scope, in which it cannot be used yet."""
        if not scope.declare(name):
            self.fail_used(name)

    def fail_used(self, name):
        """Raises the fault that a name is used already."""
        self.fail(f"name {name} is used already")

    def check_store(self, name, value):
        """Checks a store."""
        self.declare(self.stores, name)
        if size(value) > LARGEST_STORE or has_long_list(value):
            self.fail("too large")

    def check_component(self, component):
        """Checks a component behind its name."""
        if has_too_many_parts(component):
            self.fail("too many parts")
        self.cells = {cell[0]: True for cell in component["cells"]}
        self.handlers = {handler[0]: True for handler in component["handlers"]}
        scope = self.stores.inner()
        for name in component["parameters"] + component["contexts"]:
            self.declare(scope, name)
        for name, expression in component["cells"]:
            self.check_expression(expression, scope)
            self.declare(scope, name)
        for _, name, expression in component["definitions"]:
            self.check_expression(expression, scope)
            self.declare(scope, name)
        earlier = Scope()
        for name, parameters, block in component["handlers"]:
            self.declare(earlier, name)
            self.check_handler(parameters, block, scope)
        for watched, block, cleanup in component["effects"]:
            self.check_expressions(watched, scope)
            self.check_block(block, scope)
            self.check_block(cleanup, scope)
        self.check_nodes(component["view"], scope)

    def check_handler(self, parameters, block, scope):
        """Checks a handler behind its name."""
        inner = scope.inner()
        inner.allow("event")
        for name in parameters:
            self.declare(inner, name)
        self.check_block(block, inner)

    def check_block(self, block, scope):
        """Checks the statements of a block."""
        for statement in block:
            self.check_statement(statement, scope)

    def check_statement(self, statement, scope):
        """Checks a statement."""
        word = statement[0]
        if word == "set":
            self.check_set(statement[1])
            self.check_expression(statement[2], scope)
        elif word == "call":
            self.check_expression(statement[1], scope)
            self.check_expressions(statement[2], scope)
        elif word == "log":
            self.check_expressions(statement[1], scope)
        elif word == "later":
            self.check_block(statement[1], scope)
        elif word in ("if", "after", "every"):
            self.check_expression(statement[1], scope)
            for block in statement[2:]:
                self.check_block(block, scope)

    def check_set(self, name):
        """Checks that a name that is set is one of a cell or a store."""
        if name not in self.cells and name not in self.stores:
            self.fail(f"{name} is no state and no store")

    def check_nodes(self, nodes, scope):
        """Checks the nodes of a list."""
        for node in nodes:
            self.check_node(node, scope)

    def check_node(self, node, scope):
        """Checks a node."""
        word = node[0]
        if word == "show":
            self.check_expression(node[1], scope)
        elif word == "element":
            self.check_pairs(node[2], scope)
            self.check_pairs(node[3], scope)
            self.check_nodes(node[4], scope)
        elif word == "use":
            self.check_use(node, scope)
        elif word == "if":
            self.check_expression(node[1], scope)
            self.check_nodes(node[2], scope)
            self.check_nodes(node[3], scope)
        elif word == "each":
            self.check_each(node, scope)
        elif word == "provide":
            self.check_provide(node, scope)
        elif word == "await":
            self.check_nodes(node[1], scope)
            self.check_nodes(node[2], scope)
        elif word == "try":
            self.check_try(node, scope)

    def check_use(self, node, scope):
        """Checks the use of a component."""
        _, component, values, kids = node
        if component not in self.parameters:
            self.fail(f"unknown component {component}")
        given = Scope()
        for name, expression in values:
            self.check_first(given, name)
            if name not in self.parameters[component]:
                self.fail(f"unknown parameter {name}")
            self.check_expression(expression, scope)
        for name in self.parameters[component]:
            if name not in given:
                self.fail(f"parameter {name} is missing")
        self.check_nodes(kids, scope)

    def check_each(self, node, scope):
        """Checks a repetition."""
        _, name, index, row, key, nodes = node
        self.check_expression(row, scope)
        inner = scope.inner()
        self.declare(inner, name)
        if index is not None:
            self.declare(inner, index)
        if key is not None:
            self.check_expression(key, inner)
        self.check_nodes(nodes, inner)

    def check_provide(self, node, scope):
        """Checks a node that provides a context."""
        _, name, expression, nodes = node
        if name not in self.contexts:
            self.fail(f"unknown context {name}")
        self.check_expression(expression, scope)
        self.check_nodes(nodes, scope)

    def check_try(self, node, scope):
        """Checks a try."""
        _, nodes, name, other = node
        self.check_nodes(nodes, scope)
        inner = scope.inner()
        self.declare(inner, name)
        self.check_nodes(other, inner)

    def check_first(self, given, name):
        """Notes a name in a scope of the names of pairs, in which it must not be yet."""
        if name in given:
            self.fail_used(name)
        given.allow(name)

    def check_pairs(self, pairs, scope):
        """Checks pairs of names and expressions."""
        given = Scope()
        for name, expression in pairs:
            self.check_first(given, name)
            self.check_expression(expression, scope)

    def check_expressions(self, expressions, scope):
        """Checks expressions."""
        for expression in expressions:
            self.check_expression(expression, scope)

    def check_expression(self, expression, scope):
        """Checks an expression."""
        word = expression[0]
        if word == "name" and expression[1] not in scope:
            self.fail(f"unknown name {expression[1]}")
        if word == "function":
            self.check_function(expression[1], len(expression[2]))
        if word == "act" and expression[1] not in self.handlers:
            self.fail(f"unknown handler {expression[1]}")
        if word == "record":
            self.check_pairs(expression[1], scope)
        elif word == "gather":
            self.check_gathering(expression, scope)
        else:
            self.check_expressions(parts_of(expression), scope)

    def check_function(self, name, count):
        """Checks the name of a function and the number of its arguments."""
        if name not in self.counts:
            self.fail(f"unknown function {name}")
        if self.counts[name] != count:
            self.fail(f"{name} has another number of arguments")

    def check_gathering(self, expression, scope):
        """Checks a gathering."""
        _, given, name, row, condition = expression
        self.check_expression(row, scope)
        inner = scope.inner()
        self.declare(inner, name)
        self.check_expression(given, inner)
        if condition is not None:
            self.check_expression(condition, inner)
