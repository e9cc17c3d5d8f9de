"""Reads programs and expressions."""

from viewloom.words.constants import read_constant
from viewloom.words.cursor import Cursor, read_name, read_row
from viewloom.words.expressions import plain, read_expression, read_plain
from viewloom.words.markup import read_nodes
from viewloom.words.statements import read_block


def parse_program(source):
    """Returns the program of a source."""
    cursor = Cursor(source)
    stores = []
    while cursor.take("store"):
        stores.append(read_line(cursor, read_constant))
    components = []
    while cursor.sort_here() != "end":
        components.append(read_component(cursor))
    return {"stores": stores, "components": components}


def parse_expression(source):
    """Returns the expression that a whole source is."""
    cursor = Cursor(source)
    expression = read_plain(cursor)
    if cursor.sort_here() != "end":
        cursor.miss("the end")
    return expression


def read_line(cursor, read):
    """Returns the pair of a name and what a function reads behind its equals sign, up to the semicolon."""
    name = read_name(cursor)
    cursor.need("=")
    given = read(cursor)
    cursor.need(";")
    return (name, given)


def read_component(cursor):
    """Returns the component that stands here."""
    cursor.need("component")
    if not cursor.sees_capital():
        cursor.miss("a capital name")
    component = {"name": cursor.step(), "parameters": read_names(cursor)}
    cursor.need("{")
    cursor.down("}")
    component["contexts"] = read_contexts(cursor)
    component["cells"] = read_cells(cursor)
    component["definitions"] = read_definitions(cursor)
    component["handlers"] = read_handlers(cursor)
    component["effects"] = read_effects(cursor)
    cursor.need("view")
    component["view"] = read_nodes(cursor)
    cursor.up()
    cursor.need("}")
    return component


def read_names(cursor):
    """Returns the list of the parameters that stand here, with their parentheses."""
    return read_row(cursor, "(", ")", read_name)


def read_contexts(cursor):
    """Returns the list of the contexts that stand here."""
    contexts = []
    while cursor.take("context"):
        contexts.append(read_name(cursor))
        cursor.need(";")
    return contexts


def read_cells(cursor):
    """Returns the list of the cells that stand here."""
    cells = []
    while cursor.take("state"):
        cells.append(read_line(cursor, read_plain))
    return cells


def read_definitions(cursor):
    """Returns the list of the definitions that stand here."""
    definitions = []
    while cursor.sees("let") or cursor.sees("resource"):
        word = cursor.step()
        name, expression = read_line(cursor, read_plain)
        definitions.append((word, name, expression))
    return definitions


def read_handlers(cursor):
    """Returns the list of the handlers that stand here."""
    handlers = []
    while cursor.take("handler"):
        name = read_name(cursor)
        parameters = read_names(cursor)
        handlers.append((name, parameters, read_block(cursor)))
    return handlers


def read_effects(cursor):
    """Returns the list of the effects that stand here."""
    effects = []
    while cursor.take("effect"):
        watched = plain(read_row(cursor, "[", "]", read_expression))
        block = read_block(cursor)
        cleanup = []
        if cursor.take("cleanup"):
            cleanup = read_block(cursor)
        effects.append((watched, block, cleanup))
    return effects
