"""What descriptions are: their kinds, weights and keys, and which of them are the same."""

from viewloom.values.plain import same, same_records

# Where the kids stand in a description; a text has none.
KIDS_AT = {"element": 5, "use": 4, "provide": 4, "await": 2, "try": 2}


def kind_of(description):
    """Returns the kind of a description."""
    form = description[0]
    if form in ("element", "use", "provide"):
        return (form, description[2])
    return (form,)


def kids_in(description):
    """Returns the tuple of the kids of a description."""
    if description[0] == "text":
        return ()
    return description[KIDS_AT[description[0]]]


def fallback_in(description):
    """Returns the tuple of the descriptions of a fallback, empty if there is none."""
    if description[0] == "await":
        return description[3]
    return ()


def weight(description):
    """Returns the weight of a description."""
    return 1 + sum([weight(inner) for inner in kids_in(description) + fallback_in(description)])


def keys_differ(descriptions):
    """Returns whether no two descriptions of one list have the same key, here and in all that is in them."""
    keys = {description[1]: True for description in descriptions}
    if len(keys) < len(descriptions):
        return False
    for description in descriptions:
        if not keys_differ(kids_in(description)) or not keys_differ(fallback_in(description)):
            return False
    return True


def same_descriptions(a, b):
    """Returns whether two tuples of descriptions are the same, one by one."""
    if len(a) != len(b):
        return False
    for left, right in zip(a, b):
        if not same_description(left, right):
            return False
    return True


def same_description(a, b):
    """Returns whether two descriptions are the same."""
    if a[1] != b[1] or kind_of(a) != kind_of(b):
        return False
    action = PARTS_ARE_SAME[a[0]]
    return action(a, b) and same_descriptions(kids_in(a), kids_in(b))


def same_pairs(a, b):
    """Returns whether two tuples of pairs have the same names and values, one by one."""
    if len(a) != len(b):
        return False
    for left, right in zip(a, b):
        if left[0] != right[0] or not same(left[1], right[1]):
            return False
    return True


def same_text(a, b):
    """Returns whether two texts say the same."""
    return a[2] == b[2]


def same_element(a, b):
    """Returns whether two elements with the same tag have the same attributes and acts."""
    return a[3] == b[3] and same_pairs(a[4], b[4])


def same_use(a, b):
    """Returns whether two uses of the same component give it the same values."""
    return same_pairs(a[3], b[3])


def same_provide(a, b):
    """Returns whether two provides of the same context have the same value."""
    return same(a[3], b[3])


def same_await(a, b):
    """Returns whether two awaits have the same fallback."""
    return same_descriptions(a[3], b[3])


def same_try(a, b):
    """Returns whether two trys show the same when they fail."""
    if a[3] != b[3] or a[4] != b[4] or a[6] != b[6]:
        return False
    return same_records(a[5], b[5]) and same_descriptions(a[7], b[7])


PARTS_ARE_SAME = {
    "text": same_text,
    "element": same_element,
    "use": same_use,
    "provide": same_provide,
    "await": same_await,
    "try": same_try,
}
