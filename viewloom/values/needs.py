"""What kinds of values are needed at a place."""

from viewloom.errors import Fault
from viewloom.values.plain import is_list, is_number, is_record, is_text, is_truth


def need_truth(value):
    """Returns a value, which must be True or False."""
    if not is_truth(value):
        raise Fault("not true or false")
    return value


def need_number(value):
    """Returns a value, which must be a number."""
    if not is_number(value):
        raise Fault("not a number")
    return value


def need_text(value):
    """Returns a value, which must be a text."""
    if not is_text(value):
        raise Fault("not a text")
    return value


def need_list(value):
    """Returns a value, which must be a list."""
    if not is_list(value):
        raise Fault("not a list")
    return value


def need_record(value):
    """Returns a value, which must be a record."""
    if not is_record(value):
        raise Fault("not a record")
    return value


def has_place(base, index):
    """Returns whether a value has something at an index, where both must be of kinds that go together."""
    if (is_list(base) or is_text(base)) and is_number(index):
        return 0 <= index < len(base)
    if is_record(base) and is_text(index):
        return index in base
    raise Fault("not a place")
