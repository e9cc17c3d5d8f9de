"""What several tests use."""

import random
import unittest

from viewloom.errors import Fault, InvalidProgram, InvalidSource
from viewloom.words.reading import parse_expression, parse_program
from viewloom.words.tokens import tokens


class SourceCase(unittest.TestCase):
    """Tests of what has faults at places of a source."""

    def assert_fault(self, call, source, line, column, message):
        with self.assertRaises(InvalidSource, msg=source[-300:]) as caught:
            call(source)
        error = caught.exception
        self.assertEqual((error.line, error.column, error.message), (line, column, message), source[-300:])


def fault_of(call, *arguments):
    """Returns the message of the Fault that a call raises, or the pair of "value" and what it returns."""
    try:
        return ("value", call(*arguments))
    except Fault as error:
        return error.message


def program_fault(check, program):
    """Returns the component and the message of the InvalidProgram that a call raises, or None."""
    try:
        return check(program)
    except InvalidProgram as error:
        return (error.component, error.message)


def source_of(token):
    """Returns a token as it stands in a source."""
    sort, word = token[:2]
    if sort == "text":
        return '"' + word.replace("\\", "\\\\").replace('"', '\\"').replace("\n", "\\n") + '"'
    return "</" + word if sort == "closing" else word


def respaced(source, seed):
    """Returns a source of the same tokens with other spaces, newlines and comments between them."""
    chance = random.Random(seed)
    pieces = []
    for token in tokens(source):
        pieces.append(chance.choice([" ", "\n", "  ", " // so\n", "\n\n", " //\n //\"\n"]))
        pieces.append(source_of(token))
    return "".join(pieces)


def component(lines="", view="", name="A", parameters=""):
    """Returns the source of a component."""
    return f"component {name}({parameters}) {{ {lines} view {{ {view} }} }}"


def expression(source):
    """Returns the expression of a source."""
    return parse_expression(source)


def node(source):
    """Returns the node of a source."""
    nodes = parse_program(component(view=source))["components"][0]["view"]
    assert len(nodes) == 1
    return nodes[0]


def statement(source):
    """Returns the statement of a source."""
    block = parse_program(component("handler h() {" + source + "}"))["components"][0]["handlers"][0][2]
    assert len(block) == 1
    return block[0]


def constant(source):
    """Returns the value of the constant of a source."""
    return parse_program(f"store x = {source};")["stores"][0][1]


def nodes(source):
    """Returns the list of the nodes of a source."""
    return parse_program(component(view=source))["components"][0]["view"]


def block(source):
    """Returns the block of a source of statements."""
    return parse_program(component("handler h() {" + source + "}"))["components"][0]["handlers"][0][2]


def wholes(value):
    """Returns all lists, dicts and objects in a value, however deep."""
    found = []
    waiting = [value]
    while waiting:
        part = waiting.pop()
        if isinstance(part, tuple):
            waiting.extend(part)
        elif isinstance(part, list):
            found.append(part)
            waiting.extend(part)
        elif isinstance(part, dict):
            found.append(part)
            waiting.extend(part.values())
        elif hasattr(part, "__dict__"):
            found.append(part)
            waiting.extend(vars(part).values())
    return found


def shares(a, b):
    """Returns whether two values have a list, a dict or an object in common."""
    there = {id(part) for part in wholes(a)}
    return any(id(part) in there for part in wholes(b))
