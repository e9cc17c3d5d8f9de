"""Writes expressions and constants as in the canonical text."""

from viewloom.words.vocabulary import PREFIX_LEVEL, TIGHTEST_LEVEL, sign_level


def expression_text(expression):
    """Returns the text of an expression."""
    writer = WRITERS[expression[0]]
    return writer(expression)


def expressions_text(expressions):
    """Returns the texts of expressions with commas between them."""
    return ", ".join([expression_text(expression) for expression in expressions])


def constant_text(value):
    """Returns the text of the value of a constant."""
    if value is None:
        return "null"
    if value is True:
        return "true"
    if value is False:
        return "false"
    if isinstance(value, str):
        return quoted(value)
    if isinstance(value, list):
        return "[" + ", ".join([constant_text(member) for member in value]) + "]"
    if isinstance(value, dict):
        return record_text([(name, constant_text(value[name])) for name in value])
    return str(value)


def quoted(text):
    """Returns the token of a text."""
    inner = text.replace("\\", "\\\\").replace('"', '\\"').replace("\n", "\\n")
    return '"' + inner + '"'


def record_text(fields):
    """Returns the text of a record of pairs of names and texts."""
    return "{" + ", ".join([name + ": " + text for name, text in fields]) + "}"


def level_of(expression):
    """Returns how tightly an expression holds together: 0 for a choice, then the levels of the signs."""
    word = expression[0]
    if word == "choice":
        return 0
    if word == "binary":
        return sign_level(expression[1])
    if word in ("not", "minus"):
        return PREFIX_LEVEL
    return TIGHTEST_LEVEL


def operand_text(expression, loosest):
    """Returns the text of an expression, in parentheses if its level is below the loosest that can stand there."""
    text = expression_text(expression)
    if level_of(expression) < loosest:
        return "(" + text + ")"
    return text


def word_text(expression):
    """Returns the text of null, true or false."""
    return expression[0]


def number_text(expression):
    """Returns the text of a number."""
    return str(expression[1])


def text_text(expression):
    """Returns the text of a text."""
    return quoted(expression[1])


def name_text(expression):
    """Returns the text of a name."""
    return expression[1]


def list_text(expression):
    """Returns the text of a list."""
    return "[" + expressions_text(expression[1]) + "]"


def fields_text(expression):
    """Returns the text of a record."""
    return record_text([(name, expression_text(given)) for name, given in expression[1]])


def field_text(expression):
    """Returns the text of a field."""
    return operand_text(expression[1], TIGHTEST_LEVEL) + "." + expression[2]


def item_text(expression):
    """Returns the text of an item."""
    return operand_text(expression[1], TIGHTEST_LEVEL) + "[" + expression_text(expression[2]) + "]"


def not_text(expression):
    """Returns the text of a negation."""
    return "!" + operand_text(expression[1], PREFIX_LEVEL)


def minus_text(expression):
    """Returns the text of a negative."""
    return "-" + operand_text(expression[1], PREFIX_LEVEL)


def binary_text(expression):
    """Returns the text of a binary sign and its operands."""
    sign = expression[1]
    level = sign_level(sign)
    # Signs of one level group from the left, so only the right operand must bind more tightly.
    return operand_text(expression[2], level) + " " + sign + " " + operand_text(expression[3], level + 1)


def choice_text(expression):
    """Returns the text of a choice."""
    condition = operand_text(expression[1], 1)
    return condition + " ? " + expression_text(expression[2]) + " : " + expression_text(expression[3])


def function_text(expression):
    """Returns the text of the use of a function."""
    return expression[1] + "(" + expressions_text(expression[2]) + ")"


def act_text(expression):
    """Returns the text of an act."""
    return "do " + function_text(expression)


def gathering_text(expression):
    """Returns the text of a gathering."""
    text = expression_text(expression[1]) + " for " + expression[2] + " in " + expression_text(expression[3])
    if expression[4] is not None:
        text = text + " if " + expression_text(expression[4])
    return "[" + text + "]"


WRITERS = {
    "null": word_text,
    "true": word_text,
    "false": word_text,
    "number": number_text,
    "text": text_text,
    "name": name_text,
    "list": list_text,
    "record": fields_text,
    "field": field_text,
    "item": item_text,
    "not": not_text,
    "minus": minus_text,
    "binary": binary_text,
    "choice": choice_text,
    "function": function_text,
    "act": act_text,
    "gather": gathering_text,
}
