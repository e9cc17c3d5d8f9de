"""What a program has, by its names."""


def component_named(program, name):
    """Returns the component of a program with a name, or None."""
    for component in program["components"]:
        if component["name"] == name:
            return component
    return None


def handler_named(component, name):
    """Returns the handler of a component with a name, or None."""
    for handler in component["handlers"]:
        if handler[0] == name:
            return handler
    return None


def has_resources(component):
    """Returns whether a component has resources."""
    return any([definition[0] == "resource" for definition in component["definitions"]])
