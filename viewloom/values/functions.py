"""The functions of the language."""

from viewloom.errors import Fault
from viewloom.values.bounds import LARGEST_NUMBER, MOST_MEMBERS, bounded, bounded_number, bounded_text
from viewloom.values.needs import has_place, need_list, need_number, need_record, need_text
from viewloom.values.plain import copied, is_list, is_number, is_record, is_text, same, text_of
from viewloom.values.signs import quotient

MOST_DIGITS = 31


def call_function(name, arguments):
    """Returns the value of a function for a list of as many values as it takes."""
    action = ACTIONS[name]
    return copied(action(arguments))


def need_row(value):
    """Returns a value, which must be a list or a text."""
    if not is_list(value) and not is_text(value):
        raise Fault("not a list or text")
    return value


def length_of(arguments):
    """Returns the number of members, characters or fields of a value."""
    value = arguments[0]
    if not is_list(value) and not is_text(value) and not is_record(value):
        raise Fault("not a list, text or record")
    return len(value)


def text_from(arguments):
    """Returns the text of a value."""
    text = text_of(arguments[0])
    if text is None:
        raise Fault("not a text")
    return text


def number_from(arguments):
    """Returns the number that has a text, or None."""
    text = need_text(arguments[0])
    digits = text.removeprefix("-")
    # Python reads more digits than the language has, and very long texts not at all.
    if not digits.isdigit() or not digits.isascii() or len(digits) > MOST_DIGITS:
        return None
    if digits[0] == "0" and text != "0":
        return None
    if int(digits) > LARGEST_NUMBER:
        return None
    return int(text)


def part_of(arguments):
    """Returns what stands in a list or text between two indexes."""
    row, begin, end = arguments
    need_row(row)
    need_number(begin)
    need_number(end)
    part = row[max(0, begin):max(0, end)]
    return bounded(part) if is_list(part) else part


def index_of(arguments):
    """Returns the first index at which something stands in a list or text, or -1."""
    row, sought = arguments
    if is_text(need_row(row)):
        return row.find(need_text(sought))
    for index, member in enumerate(row):
        if same(member, sought):
            return index
    return -1


def got(arguments):
    """Returns what stands at a place, or the value that is given for nothing."""
    base, index, default = arguments
    if base is None or not has_place(base, index):
        return default
    return base[index]


def joined(arguments):
    """Returns the texts of a list with a text between them."""
    row = need_list(arguments[0])
    between = need_text(arguments[1])
    texts = []
    for member in row:
        texts.append(text_from([member]))
    return bounded_text(between.join(texts))


def parted(arguments):
    """Returns the list of what stands in a text between the places of another one."""
    text = need_text(arguments[0])
    between = need_text(arguments[1])
    if between == "":
        raise Fault("empty text")
    return bounded(text.split(between))


def names_of(arguments):
    """Returns the names of a record in ascending order."""
    return bounded(sorted(list(need_record(arguments[0]))))


def in_order(arguments):
    """Returns a list in ascending order."""
    row = need_list(arguments[0])
    numbers = [member for member in row if is_number(member)]
    texts = [member for member in row if is_text(member)]
    if len(row) not in (len(numbers), len(texts)):
        raise Fault("not to be compared")
    return bounded(sorted(row))


def numbers_below(arguments):
    """Returns the list of the numbers from 0 on that are below one."""
    end = need_number(arguments[0])
    if end < 0:
        raise Fault("less than 0")
    if end > MOST_MEMBERS:
        raise Fault("too large")
    return bounded(list(range(end)))


def rest_of(arguments):
    """Returns what a division of two numbers leaves."""
    a = need_number(arguments[0])
    b = need_number(arguments[1])
    return bounded_number(a - b * quotient(a, b))


def lesser(arguments):
    """Returns the lesser one of two numbers."""
    a = need_number(arguments[0])
    return bounded_number(min(a, need_number(arguments[1])))


def greater(arguments):
    """Returns the greater one of two numbers."""
    a = need_number(arguments[0])
    return bounded_number(max(a, need_number(arguments[1])))


ACTIONS = {
    "length": length_of,
    "text": text_from,
    "number": number_from,
    "slice": part_of,
    "find": index_of,
    "get": got,
    "join": joined,
    "split": parted,
    "keys": names_of,
    "sorted": in_order,
    "range": numbers_below,
    "rest": rest_of,
    "min": lesser,
    "max": greater,
}
