"""Reads expressions.

What reads an expression returns the pair of it and its depth; "parts" are lists of such pairs.
"""

from viewloom.errors import InvalidSource
from viewloom.words.cursor import read_more, read_name, read_row
from viewloom.words.vocabulary import sign_level

GREATEST_DEPTH = 30


def made(place, expression, parts):
    """Returns an expression, whose first token stands at a place, and its depth."""
    depth = 1 + max([part[1] for part in parts], default=0)
    if depth > GREATEST_DEPTH:
        raise InvalidSource(place[0], place[1], "nested too deep")
    return (expression, depth)


def plain(parts):
    """Returns the list of the expressions of parts."""
    return [part[0] for part in parts]


def read_plain(cursor):
    """Returns the expression that stands here, without its depth."""
    return read_expression(cursor)[0]


def read_expression(cursor):
    """Reads an expression."""
    place = cursor.place()
    condition = read_binary(cursor, 1)
    if not cursor.take("?"):
        return condition
    chosen = read_below(cursor, read_expression)
    cursor.need(":")
    other = read_below(cursor, read_expression)
    return made(place, ("choice", condition[0], chosen[0], other[0]), [condition, chosen, other])


def read_below(cursor, read):
    """Reads by a function what stands one level below."""
    cursor.down(None)
    part = read(cursor)
    cursor.up()
    return part


def read_binary(cursor, loosest):
    """Reads operands with signs between that have this level or bind more tightly."""
    place = cursor.place()
    left = read_unary(cursor)
    while cursor.sort_here() == "sign" and sign_level(cursor.word_here()) >= loosest:
        sign = cursor.step()
        right = read_binary(cursor, sign_level(sign) + 1)
        left = made(place, ("binary", sign, left[0], right[0]), [left, right])
    return left


def read_unary(cursor):
    """Reads an operand."""
    place = cursor.place()
    for sign, word in (("!", "not"), ("-", "minus")):
        if cursor.take(sign):
            operand = read_below(cursor, read_unary)
            return made(place, (word, operand[0]), [operand])
    return read_postfix(cursor)


def read_postfix(cursor):
    """Reads a primary with all its fields and items."""
    place = cursor.place()
    base = read_primary(cursor)
    while cursor.sees(".") or cursor.sees("["):
        if cursor.sees("."):
            base = read_field(cursor, place, base)
        else:
            index = read_between(cursor, "[", "]")
            base = made(place, ("item", base[0], index[0]), [base, index])
    return base


def read_field(cursor, place, base):
    """Reads a field of an expression that began at a place."""
    cursor.need(".")
    return made(place, ("field", base[0], read_name(cursor)), [base])


def read_path(cursor):
    """Reads the names behind `call`."""
    place = cursor.place()
    path = made(place, ("name", read_name(cursor)), [])
    while cursor.sees("."):
        path = read_field(cursor, place, path)
    return path


def read_between(cursor, begin, end):
    """Reads an expression between two signs."""
    cursor.need(begin)
    cursor.down(end)
    inner = read_expression(cursor)
    cursor.up()
    cursor.need(end)
    return inner


def read_arguments(cursor):
    """Reads arguments with their parentheses; returns parts."""
    return read_row(cursor, "(", ")", read_expression)


def read_primary(cursor):
    """Reads a primary."""
    place = cursor.place()
    if cursor.sort_here() == "number":
        return made(place, ("number", int(cursor.step())), [])
    if cursor.sort_here() == "text":
        return made(place, ("text", cursor.step()), [])
    if cursor.mark() in ("null", "true", "false"):
        return made(place, (cursor.step(),), [])
    if cursor.take("do"):
        return read_call(cursor, place, "act")
    if cursor.sees("("):
        return read_between(cursor, "(", ")")
    if cursor.sees("["):
        return read_list(cursor)
    if cursor.sees("{"):
        fields = read_row(cursor, "{", "}", read_pair)
        pairs = [(name, value[0]) for name, value in fields]
        return made(place, ("record", pairs), [value for _, value in fields])
    if not cursor.sees_name():
        cursor.miss("an expression")
    return read_named(cursor, place)


def read_named(cursor, place):
    """Reads a name, or the use of a function."""
    if cursor.row[cursor.at + 1][:2] == ("sign", "("):
        return read_call(cursor, place, "function")
    return made(place, ("name", read_name(cursor)), [])


def read_call(cursor, place, word):
    """Reads a name and arguments into an expression with this word."""
    name = read_name(cursor)
    parts = read_arguments(cursor)
    return made(place, (word, name, plain(parts)), parts)


def read_pair(cursor):
    """Reads a field of a record; returns the pair of its name and its value, which has its depth with it."""
    name = read_name(cursor)
    cursor.need(":")
    return (name, read_expression(cursor))


def read_list(cursor):
    """Reads a list or a gathering."""
    place = cursor.place()
    cursor.need("[")
    cursor.down("]")
    parts = []
    if not cursor.sees("]"):
        parts = [read_expression(cursor)]
        if cursor.take("for"):
            return read_gathering(cursor, place, parts[0])
        if cursor.take(","):
            parts.extend(read_more(cursor, read_expression))
    cursor.up()
    cursor.need("]")
    return made(place, ("list", plain(parts)), parts)


def read_gathering(cursor, place, given):
    """Reads the rest of a gathering, behind its `for`."""
    name = read_name(cursor)
    cursor.need("in")
    row = read_expression(cursor)
    parts = [given, row]
    condition = None
    if cursor.take("if"):
        parts.append(read_expression(cursor))
        condition = parts[2][0]
    cursor.up()
    cursor.need("]")
    return made(place, ("gather", given[0], name, row[0], condition), parts)
