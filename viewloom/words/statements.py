"""Reads blocks and their statements."""

from viewloom.words.cursor import read_braces, read_name
from viewloom.words.expressions import plain, read_arguments, read_path, read_plain


def read_block(cursor):
    """Returns the list of the statements of the block that stands here."""
    return read_braces(cursor, read_statement)


def read_statement(cursor):
    """Returns the statement that stands here."""
    if cursor.mark() in ("if", "later", "after", "every"):
        return read_compound(cursor)
    statement = read_simple(cursor)
    cursor.need(";")
    return statement


def read_simple(cursor):
    """Returns the statement without a block that stands here; its semicolon is left."""
    if cursor.mark() in ("stop", "prevent"):
        return (cursor.step(),)
    if cursor.take("call"):
        path = read_path(cursor)
        return ("call", path[0], plain(read_arguments(cursor)))
    if cursor.take("log"):
        return ("log", plain(read_arguments(cursor)))
    if not cursor.sees_name():
        cursor.miss("a statement")
    name = read_name(cursor)
    cursor.need("=")
    return ("set", name, read_plain(cursor))


def read_compound(cursor):
    """Returns the statement with a block that stands here."""
    word = cursor.step()
    if word == "later":
        return (word, read_block(cursor))
    expression = read_plain(cursor)
    block = read_block(cursor)
    if word != "if":
        return (word, expression, block)
    other = []
    if cursor.take("else"):
        other = read_block(cursor)
    return (word, expression, block, other)
