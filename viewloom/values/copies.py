"""Copies of what has values in it, and of sources that were read. They share no list and no dict with it."""

from viewloom.values.plain import copied


def copied_names(environment):
    """Returns a copy of a dict of names with values."""
    return {name: copied(environment[name]) for name in environment}


def copied_pairs(pairs):
    """Returns a tuple of copies of pairs of a name and a value."""
    return tuple([(name, copied(value)) for name, value in pairs])


def copied_source(part):
    """Returns a copy of an expression, a statement or a node, or of a list of them."""
    if isinstance(part, tuple):
        return tuple([copied_source(inner) for inner in part])
    if isinstance(part, list):
        return [copied_source(inner) for inner in part]
    return part
