"""The bounds of values that are made."""

from viewloom.errors import Fault
from viewloom.values.plain import depth, is_list, size

LARGEST_NUMBER = 10 ** 30
LONGEST_TEXT = 2000
MOST_MEMBERS = 200
GREATEST_DEPTH = 20
GREATEST_SIZE = 2000


def bounded_number(number):
    """Returns a number that is made, if it is within the bounds."""
    if abs(number) > LARGEST_NUMBER:
        raise Fault("number too large")
    return number


def bounded_text(text):
    """Returns a text that is made, if it is within the bounds."""
    if len(text) > LONGEST_TEXT:
        raise Fault("too large")
    return text


def bounded(value):
    """Returns a list, a record or an act that is made, if it is within the bounds."""
    if is_list(value) and len(value) > MOST_MEMBERS:
        raise Fault("too large")
    if depth(value) > GREATEST_DEPTH:
        raise Fault("nested too deep")
    if size(value) > GREATEST_SIZE:
        raise Fault("too large")
    return value
