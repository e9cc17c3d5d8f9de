"""Reads the nodes of views."""

from viewloom.words.cursor import CLOSING, read_braces, read_name
from viewloom.words.expressions import read_between, read_plain


def read_nodes(cursor):
    """Returns the list of the nodes between the braces that stand here."""
    return read_braces(cursor, read_node)


def read_node(cursor):
    """Returns the node that stands here."""
    if cursor.sort_here() == "text":
        return ("text", cursor.step())
    if cursor.sees("{"):
        return ("show", read_braced(cursor))
    if cursor.take("<"):
        return read_tagged(cursor)
    if cursor.take("slot"):
        return ("slot",)
    if cursor.take("if"):
        return read_if(cursor)
    if cursor.take("each"):
        return read_each(cursor)
    if cursor.take("provide"):
        name = read_name(cursor)
        cursor.need("=")
        return ("provide", name, read_plain(cursor), read_nodes(cursor))
    if cursor.take("await"):
        nodes = read_nodes(cursor)
        cursor.need("else")
        return ("await", nodes, read_nodes(cursor))
    if not cursor.take("try"):
        cursor.miss("a node")
    nodes = read_nodes(cursor)
    cursor.need("catch")
    return ("try", nodes, read_name(cursor), read_nodes(cursor))


def read_braced(cursor):
    """Returns the expression between the braces that stand here."""
    return read_between(cursor, "{", "}")[0]


def read_if(cursor):
    """Returns the choice behind its `if`."""
    condition = read_plain(cursor)
    nodes = read_nodes(cursor)
    other = []
    if cursor.take("else"):
        other = read_nodes(cursor)
    return ("if", condition, nodes, other)


def read_each(cursor):
    """Returns the repetition behind its `each`."""
    name = read_name(cursor)
    index = None
    if cursor.take(","):
        index = read_name(cursor)
    cursor.need("in")
    row = read_plain(cursor)
    key = None
    if cursor.take("by"):
        key = read_plain(cursor)
    return ("each", name, index, row, key, read_nodes(cursor))


def read_tagged(cursor):
    """Returns the element or the use behind its `<`."""
    if cursor.sees_capital():
        name = cursor.step()
        values = []
        while cursor.sees_name():
            values.append(read_attribute(cursor))
        return ("use", name, values, read_kids(cursor, name))
    tag = cursor.need_tag()
    attributes = []
    while cursor.sees_tag():
        attributes.append(read_attribute(cursor))
    acts = []
    while cursor.take("on"):
        acts.append(read_act(cursor))
    return ("element", tag, attributes, acts, read_kids(cursor, tag))


def read_attribute(cursor):
    """Returns the pair of a name and its value in a tag."""
    name = cursor.step()
    cursor.need("=")
    if cursor.sort_here() == "text":
        return (name, ("text", cursor.step()))
    return (name, read_braced(cursor))


def read_act(cursor):
    """Returns the pair of an event and its act, behind its `on`."""
    event = cursor.need_tag()
    cursor.need("=")
    return (event, read_braced(cursor))


def read_kids(cursor, tag):
    """Returns the list of the nodes up to the end of an element or a use, whose tag is not closed yet."""
    nodes = []
    if cursor.take("/>"):
        return nodes
    cursor.need(">")
    cursor.down(CLOSING)
    while not cursor.sees(CLOSING):
        nodes.append(read_node(cursor))
    cursor.up()
    if cursor.word_here() != tag:
        cursor.miss(CLOSING + tag)
    cursor.step()
    cursor.need(">")
    return nodes
