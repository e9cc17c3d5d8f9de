"""What values are, and how they compare."""


def is_truth(value):
    """Returns whether a value is True or False."""
    return isinstance(value, bool)


def is_number(value):
    """Returns whether a value is a number; True and False are none."""
    return isinstance(value, int) and not isinstance(value, bool)


def is_text(value):
    """Returns whether a value is a text."""
    return isinstance(value, str)


def is_list(value):
    """Returns whether a value is a list."""
    return isinstance(value, list)


def is_record(value):
    """Returns whether a value is a record."""
    return isinstance(value, dict)


def is_act(value):
    """Returns whether a value is an act."""
    return isinstance(value, tuple)


def values_in(value):
    """Returns the list of the values directly in a value, in their order."""
    if is_list(value):
        return list(value)
    if is_record(value):
        return list(value.values())
    if is_act(value):
        return list(value[3])
    return []


def same(a, b):
    """Returns whether two values are the same."""
    if is_list(a):
        return is_list(b) and same_lists(a, b)
    if is_record(a):
        return is_record(b) and same_records(a, b)
    if is_act(a):
        return is_act(b) and a[1] == b[1] and a[2] == b[2] and same_lists(a[3], b[3])
    if is_truth(a):
        return is_truth(b) and a == b
    if is_number(a):
        return is_number(b) and a == b
    if is_text(a):
        return is_text(b) and a == b
    return b is None


def same_lists(a, b):
    """Returns whether two lists of values have the same values in the same order."""
    if len(a) != len(b):
        return False
    for left, right in zip(a, b):
        if not same(left, right):
            return False
    return True


def same_records(a, b):
    """Returns whether two records have the same names with the same values."""
    if len(a) != len(b):
        return False
    for name in a:
        if name not in b or not same(a[name], b[name]):
            return False
    return True


def size(value):
    """Returns the size of a value."""
    total = 1
    if is_text(value):
        total += len(value)
    if is_record(value):
        total += sum([len(name) for name in value])
    if is_act(value):
        total += len(value[2])
    return total + sum([size(member) for member in values_in(value)])


def depth(value):
    """Returns the depth of a value."""
    return 1 + max([depth(member) for member in values_in(value)], default=0)


def text_of(value):
    """Returns the text of a value, or None if it has none."""
    if value is None:
        return ""
    if value is True:
        return "true"
    if value is False:
        return "false"
    if is_number(value):
        return str(value)
    if is_text(value):
        return value
    return None


def copied(value):
    """Returns a value that is the same and shares no list and no dict with it."""
    if is_list(value):
        return [copied(member) for member in value]
    if is_record(value):
        return {name: copied(value[name]) for name in value}
    if is_act(value):
        return (value[0], value[1], value[2], copied(value[3]))
    return value
