"""What values are, and how they compare."""


def is_truth(value):
    """Returns whether a value is True or False."""
    return isinstance(value, bool)


def is_number(value):
    """Returns whether a value is a number; True and False are none."""
    return isinstance(value, int) and not isinstance(value, bool)


def is_text(value):
    """Returns whether a value is a text."""
    return isinstance(value, str)


def is_list(value):
    """Returns whether a value is a list."""
    return isinstance(value, list)


def is_record(value):
    """Returns whether a value is a record."""
    return isinstance(value, dict)


def is_act(value):
    """Returns whether a value is an act."""
    return isinstance(value, tuple)


def members_of(whole):
    """Returns the list of the values directly in a list, a record or an act; that of a list is the list itself."""
    if isinstance(whole, list):
        return whole
    if isinstance(whole, dict):
        return list(whole.values())
    return whole[3]


def members_of_all(wholes):
    """Returns the list of the values directly in lists, records and acts."""
    rows = [members_of(whole) for whole in wholes]
    return [part for row in rows for part in row]


def wholes_in(values):
    """Returns the list of the lists, records and acts among values."""
    # Nearly all values have nothing in them. What tells them apart stands here for each, since a call would cost more.
    return [part for part in values if not isinstance(part, int) and not isinstance(part, str) and part is not None]


def has_act(value):
    """Returns whether a value is an act or has one in it."""
    wholes = wholes_in([value])
    while wholes:
        if any([is_act(whole) for whole in wholes]):
            return True
        wholes = wholes_in(members_of_all(wholes))
    return False


def same(a, b):
    """Returns whether two values are the same."""
    # For Python, True and False are integers that are equal to 1 and 0.
    if isinstance(a, int):
        return isinstance(b, int) and isinstance(a, bool) == isinstance(b, bool) and a == b
    if isinstance(a, str):
        return isinstance(b, str) and a == b
    if isinstance(a, list):
        return isinstance(b, list) and same_lists(a, b)
    if isinstance(a, dict):
        return isinstance(b, dict) and same_records(a, b)
    if isinstance(a, tuple):
        return isinstance(b, tuple) and a[1] == b[1] and a[2] == b[2] and same_lists(a[3], b[3])
    return b is None


def same_lists(a, b):
    """Returns whether two lists of values have the same values in the same order."""
    if len(a) != len(b):
        return False
    for left, right in zip(a, b):
        if not same(left, right):
            return False
    return True


def same_records(a, b):
    """Returns whether two records have the same names with the same values."""
    if len(a) != len(b):
        return False
    for name in a:
        if name not in b or not same(a[name], b[name]):
            return False
    return True


def size(value):
    """Returns the size of a value."""
    total = 0
    parts = [value]
    while parts:
        total += size_of_all(parts)
        parts = members_of_all(wholes_in(parts))
    return total


def size_of_all(values):
    """Returns the sizes of values together, without the sizes of the values in them."""
    total = len(values) + sum([len(part) for part in values if isinstance(part, str)])
    for part in wholes_in(values):
        if isinstance(part, dict):
            total += sum([len(name) for name in part])
        elif isinstance(part, tuple):
            total += len(part[2])
    return total


def depth(value):
    """Returns the depth of a value."""
    levels = 1
    parts = members_of_all(wholes_in([value]))
    while parts:
        levels += 1
        parts = members_of_all(wholes_in(parts))
    return levels


def is_deeper(whole, most):
    """Returns whether the depth of a list, a record or an act is more than a number, which is at least 1."""
    members = members_of(whole)
    if most == 1:
        return len(members) > 0
    for part in wholes_in(members):
        if is_deeper(part, most - 1):
            return True
    return False


def text_of(value):
    """Returns the text of a value, or None if it has none."""
    if value is None:
        return ""
    if value is True:
        return "true"
    if value is False:
        return "false"
    if is_number(value):
        return str(value)
    if is_text(value):
        return value
    return None


def copied(value):
    """Returns a value that is the same and shares no list and no dict with it."""
    return copy_of(value)


def copy_of(value):
    """Returns a copy of a value."""
    if isinstance(value, list):
        # Like in wholes_in, what has nothing in it is told apart here.
        return [
            part if isinstance(part, int) or isinstance(part, str) or part is None else copy_of(part) for part in value
        ]
    if isinstance(value, dict):
        return {name: copy_of(value[name]) for name in value}
    if isinstance(value, tuple):
        return (value[0], value[1], value[2], copy_of(value[3]))
    return value
