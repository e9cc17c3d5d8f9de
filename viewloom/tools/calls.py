"""Texts of calls, and recordings, which are lists of them."""

from viewloom.errors import InvalidCall, InvalidRecording
from viewloom.values.bounds import LARGEST_NUMBER
from viewloom.values.plain import is_list, is_record, is_text
from viewloom.words.showing import quoted
from viewloom.words.vocabulary import is_digit

LOWEST_LEVEL = 20
MOST_DIGITS = 31
WORDS = (("null", None), ("true", True), ("false", False))
ESCAPES = {'"': '"', "\\": "\\", "n": "\n"}


def write_call(name, values):
    """Returns the text of a call."""
    return value_text([name, *values])


def value_text(value):
    """Returns the text of a value."""
    if value is None:
        return "null"
    if value is True:
        return "true"
    if value is False:
        return "false"
    if is_text(value):
        return quoted(value)
    if is_list(value):
        return "[" + ",".join([value_text(member) for member in value]) + "]"
    if is_record(value):
        return "{" + ",".join([f"{quoted(name)}:{value_text(value[name])}" for name in value]) + "}"
    return str(value)


def read_call(text):
    """Returns the name and the list of the values of the call that a text is of, or None."""
    reader = CallReader(text)
    try:
        # The values of the call stand on the first level.
        parts = reader.take_value(0)
    except InvalidCall:
        return None
    if reader.at < len(text) or not is_list(parts) or not parts:
        return None
    if not is_text(parts[0]) or parts[0] == "":
        return None
    return (parts[0], parts[1:])


class CallReader:
    """The text of a call, and the place up to which it was read."""

    def __init__(self, text):
        self.text = text
        self.at = 0

    def sign(self):
        """Returns the sign that stands next, the empty text at the end."""
        return self.text[self.at:self.at + 1]

    def has(self, mark):
        """Returns whether a mark stands next, and goes on behind it if it does."""
        if not self.text.startswith(mark, self.at):
            return False
        self.at += len(mark)
        return True

    def need(self, mark):
        """Goes on behind a mark, which must stand next."""
        if not self.has(mark):
            raise InvalidCall(f"{mark} is missing")

    def take_value(self, level):
        """Returns the value that stands next."""
        if level > LOWEST_LEVEL:
            raise InvalidCall("nested too deep")
        for word, meant in WORDS:
            if self.has(word):
                return meant
        sign = self.sign()
        if sign == "[":
            return self.take_list(level)
        if sign == "{":
            return self.take_record(level)
        if sign == '"':
            return self.take_text()
        return self.take_number()

    def take_list(self, level):
        """Returns the list that stands next."""
        self.need("[")
        members = []
        if self.has("]"):
            return members
        members.append(self.take_value(level + 1))
        while self.has(","):
            members.append(self.take_value(level + 1))
        self.need("]")
        return members

    def take_record(self, level):
        """Returns the record that stands next."""
        self.need("{")
        record = {}
        if self.has("}"):
            return record
        self.take_field(record, level)
        while self.has(","):
            self.take_field(record, level)
        self.need("}")
        return record

    def take_field(self, record, level):
        """Adds the field that stands next to a record."""
        name = self.take_text()
        if name in record:
            raise InvalidCall("a name stands twice")
        self.need(":")
        record[name] = self.take_value(level + 1)

    def take_text(self):
        """Returns the text that stands next."""
        self.need('"')
        signs = []
        while not self.has('"'):
            sign = self.sign()
            if sign in ("", "\n"):
                raise InvalidCall("a text is not closed")
            self.at += 1
            if sign == "\\":
                sign = self.take_escaped()
            signs.append(sign)
        return "".join(signs)

    def take_escaped(self):
        """Returns the sign for which the sign behind a backslash stands."""
        sign = self.sign()
        if sign not in ESCAPES:
            raise InvalidCall("unknown escape")
        self.at += 1
        return ESCAPES[sign]

    def take_number(self):
        """Returns the number that stands next."""
        is_negative = self.has("-")
        begin = self.at
        while is_digit(self.sign()):
            self.at += 1
        digits = self.text[begin:self.at]
        if not digits or len(digits) > MOST_DIGITS or (digits[0] == "0" and (is_negative or digits != "0")):
            raise InvalidCall("not a number")
        number = int(digits)
        if number > LARGEST_NUMBER:
            raise InvalidCall("not a number")
        return -number if is_negative else number


def read_recording(texts):
    """Returns the list of the calls of a recording."""
    calls = [read_call(text) for text in texts]
    if not calls or not is_beginning(calls[0]):
        raise InvalidRecording(0)
    for index, call in enumerate(calls):
        if call is None or (index > 0 and call[0] == "root"):
            raise InvalidRecording(index)
    return calls


def is_beginning(call):
    """Returns whether a call, which may be None, can be the first one of a recording."""
    if call is None:
        return False
    name, values = call
    return name == "root" and len(values) == 2 and is_text(values[0]) and is_record(values[1])
