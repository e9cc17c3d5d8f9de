"""The parts of expressions, and the names that they use."""


def parts_of(expression):
    """Returns the list of the expressions directly in one, which is no gathering, in their order."""
    word = expression[0]
    if word == "list":
        return list(expression[1])
    if word == "record":
        return [given for _, given in expression[1]]
    if word in ("function", "act"):
        return list(expression[2])
    if word in ("field", "not", "minus"):
        return [expression[1]]
    if word == "item":
        return [expression[1], expression[2]]
    if word == "binary":
        return [expression[2], expression[3]]
    if word == "choice":
        return [expression[1], expression[2], expression[3]]
    return []


def free_names(expression):
    """Returns the list of the names that an expression uses and does not declare itself."""
    found = {}
    collect_names(expression, [], found)
    return list(found)


def collect_names(expression, declared, found):
    """Adds the names that an expression uses to a dict, except those that are declared around it."""
    if expression[0] == "name":
        if expression[1] not in declared:
            found[expression[1]] = True
    elif expression[0] == "gather":
        collect_names(expression[3], declared, found)
        inner = declared + [expression[2]]
        collect_names(expression[1], inner, found)
        if expression[4] is not None:
            collect_names(expression[4], inner, found)
    else:
        for part in parts_of(expression):
            collect_names(part, declared, found)
