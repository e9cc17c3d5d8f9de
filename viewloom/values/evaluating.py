"""Evaluates expressions.

What evaluates an expression takes it, an environment and an owner; its value may share lists and dicts with the
environment until `evaluate` copies it.
"""

from viewloom.errors import Fault
from viewloom.values.bounds import bounded, bounded_number
from viewloom.values.functions import call_function
from viewloom.values.needs import has_place, need_list, need_number, need_record, need_truth
from viewloom.values.plain import copied
from viewloom.values.signs import sign_value


def evaluate(expression, environment, owner):
    """Returns the value of an expression in an environment, for an owner."""
    return copied(value_of(expression, environment, owner))


def value_of(expression, environment, owner):
    """Returns the value of an expression."""
    action = ACTIONS[expression[0]]
    return action(expression, environment, owner)


def values_of(expressions, environment, owner):
    """Returns the list of the values of expressions."""
    return [value_of(expression, environment, owner) for expression in expressions]


def null_value(expression, environment, owner):
    """Returns None."""
    return None


def true_value(expression, environment, owner):
    """Returns True."""
    return True


def false_value(expression, environment, owner):
    """Returns False."""
    return False


def written_value(expression, environment, owner):
    """Returns the number or text that is written."""
    return expression[1]


def name_value(expression, environment, owner):
    """Returns the value of a name."""
    # Only where a component was kept while another program came, it can lack a name.
    return environment.get(expression[1])


def list_value(expression, environment, owner):
    """Returns the value of a list."""
    return bounded(values_of(expression[1], environment, owner))


def record_value(expression, environment, owner):
    """Returns the value of a record."""
    record = {}
    for name, given in expression[1]:
        record[name] = value_of(given, environment, owner)
    return bounded(record)


def field_value(expression, environment, owner):
    """Returns the value of a field."""
    record = need_record(value_of(expression[1], environment, owner))
    if expression[2] not in record:
        raise Fault("no field " + expression[2])
    return record[expression[2]]


def item_value(expression, environment, owner):
    """Returns the value of an item."""
    base = value_of(expression[1], environment, owner)
    index = value_of(expression[2], environment, owner)
    if not has_place(base, index):
        raise Fault("nothing there")
    return base[index]


def not_value(expression, environment, owner):
    """Returns the value of a negation."""
    return not need_truth(value_of(expression[1], environment, owner))


def minus_value(expression, environment, owner):
    """Returns the value of a negative."""
    return bounded_number(-need_number(value_of(expression[1], environment, owner)))


def binary_value(expression, environment, owner):
    """Returns the value of a sign between two expressions."""
    sign = expression[1]
    left = value_of(expression[2], environment, owner)
    # What the left side of these two decides keeps the right side from being evaluated.
    if sign in ("&&", "||") and need_truth(left) == (sign == "||"):
        return left
    right = value_of(expression[3], environment, owner)
    if sign in ("&&", "||"):
        return need_truth(right)
    return sign_value(sign, left, right)


def choice_value(expression, environment, owner):
    """Returns the value of a choice."""
    if need_truth(value_of(expression[1], environment, owner)):
        return value_of(expression[2], environment, owner)
    return value_of(expression[3], environment, owner)


def function_value(expression, environment, owner):
    """Returns the value of a function."""
    return call_function(expression[1], values_of(expression[2], environment, owner))


def act_value(expression, environment, owner):
    """Returns an act of the owner."""
    return bounded(("act", owner, expression[1], values_of(expression[2], environment, owner)))


def gathering_value(expression, environment, owner):
    """Returns the value of a gathering."""
    _, given, name, row, condition = expression
    inner = dict(environment)
    found = []
    for member in need_list(value_of(row, environment, owner)):
        inner[name] = member
        if condition is None or need_truth(value_of(condition, inner, owner)):
            found.append(value_of(given, inner, owner))
    return bounded(found)


ACTIONS = {
    "null": null_value,
    "true": true_value,
    "false": false_value,
    "number": written_value,
    "text": written_value,
    "name": name_value,
    "list": list_value,
    "record": record_value,
    "field": field_value,
    "item": item_value,
    "not": not_value,
    "minus": minus_value,
    "binary": binary_value,
    "choice": choice_value,
    "function": function_value,
    "act": act_value,
    "gather": gathering_value,
}
