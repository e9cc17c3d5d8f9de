"""The bounds of values that are made."""

from viewloom.errors import Fault
from viewloom.values.plain import is_deeper, is_list, members_of_all, size_of_all, wholes_in

LARGEST_NUMBER = 10 ** 30
LONGEST_TEXT = 2000
MOST_MEMBERS = 200
GREATEST_DEPTH = 20
GREATEST_SIZE = 2000


def bounded_number(number):
    """Returns a number that is made, if it is within the bounds."""
    if abs(number) > LARGEST_NUMBER:
        raise Fault("number too large")
    return number


def bounded_text(text):
    """Returns a text that is made, if it is within the bounds."""
    if len(text) > LONGEST_TEXT:
        raise Fault("too large")
    return text


def bounded(value):
    """Returns a list, a record or an act that is made, if it is within the bounds."""
    if is_list(value) and len(value) > MOST_MEMBERS:
        raise Fault("too large")
    level = 1
    total = size_of_all([value])
    wholes = [value]
    while wholes and total <= GREATEST_SIZE:
        parts = members_of_all(wholes)
        if parts and level == GREATEST_DEPTH:
            raise Fault("nested too deep")
        level += 1
        total += size_of_all(parts)
        wholes = wholes_in(parts)
    if total > GREATEST_SIZE:
        fail_large(wholes, GREATEST_DEPTH - level + 1)
    return value


def fail_large(wholes, most):
    """Raises the fault of a value that is too large, of which lists, records and acts on one level may be too deep."""
    for whole in wholes:
        if is_deeper(whole, most):
            raise Fault("nested too deep")
    raise Fault("too large")
