"""What the signs of the language make of two values."""

from viewloom.errors import Fault
from viewloom.values.bounds import bounded, bounded_number, bounded_text
from viewloom.values.needs import need_number
from viewloom.values.plain import is_list, is_number, is_text, same, text_of


def sign_value(sign, a, b):
    """Returns the value of a sign that stands between two values, both of which are evaluated for it."""
    action = ACTIONS[sign]
    return action(a, b)


def quotient(a, b):
    """Returns the quotient of two numbers, rounded toward 0."""
    if b == 0:
        raise Fault("division by 0")
    amount = abs(a) // abs(b)
    return amount if (a < 0) == (b < 0) else -amount


def need_comparable(a, b):
    """Takes two numbers or two texts only."""
    if not (is_number(a) and is_number(b) or is_text(a) and is_text(b)):
        raise Fault("not to be compared")


def are_same(a, b):
    """Returns whether two values are the same."""
    return same(a, b)


def differ(a, b):
    """Returns whether two values are not the same."""
    return not same(a, b)


def is_less(a, b):
    """Returns whether a value is less than another one."""
    need_comparable(a, b)
    return a < b


def is_at_most(a, b):
    """Returns whether a value is less than another one or equal to it."""
    need_comparable(a, b)
    return a <= b


def is_greater(a, b):
    """Returns whether a value is greater than another one."""
    need_comparable(a, b)
    return a > b


def is_at_least(a, b):
    """Returns whether a value is greater than another one or equal to it."""
    need_comparable(a, b)
    return a >= b


def added(a, b):
    """Returns the sum of two numbers, or two lists or texts joined."""
    if is_number(a) and is_number(b):
        return bounded_number(a + b)
    if is_list(a) and is_list(b):
        return bounded(a + b)
    if not is_text(a) and not is_text(b):
        raise Fault("not to be added")
    left = text_of(a)
    right = text_of(b)
    if left is None or right is None:
        raise Fault("not a text")
    return bounded_text(left + right)


def subtracted(a, b):
    """Returns the difference of two numbers."""
    return bounded_number(need_number(a) - need_number(b))


def multiplied(a, b):
    """Returns the product of two numbers."""
    return bounded_number(need_number(a) * need_number(b))


def divided(a, b):
    """Returns the quotient of two numbers."""
    return bounded_number(quotient(need_number(a), need_number(b)))


ACTIONS = {
    "==": are_same,
    "!=": differ,
    "<": is_less,
    "<=": is_at_most,
    ">": is_greater,
    ">=": is_at_least,
    "+": added,
    "-": subtracted,
    "*": multiplied,
    "/": divided,
}
