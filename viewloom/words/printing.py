"""Writes the canonical text of programs."""

from viewloom.words.showing import constant_text, expression_text, expressions_text, quoted


def program_text(program):
    """Returns the canonical text of a program."""
    lines = [f"store {name} = {constant_text(value)};" for name, value in program["stores"]]
    for component in program["components"]:
        lines.extend(component_lines(component))
    return "".join([line + "\n" for line in lines])


def margin(level):
    """Returns the spaces ahead of a line on a level."""
    return "  " * (level - 1)


def braced_lines(level, parts):
    """Returns the lines of parts on a level that follow each other on the lines of their braces.

    A part is the pair of what stands ahead of its braces and the list of the lines in them.
    """
    lines = []
    begin = margin(level)
    for head, inner in parts:
        if inner:
            lines.append(begin + head + " {")
            lines.extend(inner)
            begin = margin(level) + "} "
        else:
            begin = begin + head + " {} "
    lines.append(begin[:-1])
    return lines


def component_lines(component):
    """Returns the lines of a component."""
    begin = margin(2)
    lines = [f"{begin}context {name};" for name in component["contexts"]]
    for name, expression in component["cells"]:
        lines.append(f"{begin}state {name} = {expression_text(expression)};")
    for word, name, expression in component["definitions"]:
        lines.append(f"{begin}{word} {name} = {expression_text(expression)};")
    for name, parameters, block in component["handlers"]:
        head = f"handler {name}({names_text(parameters)})"
        lines.extend(braced_lines(2, [(head, block_lines(block, 3))]))
    for watched, block, cleanup in component["effects"]:
        head = f"effect [{expressions_text(watched)}]"
        lines.extend(braced_lines(2, block_parts(head, block, "cleanup", cleanup, 3)))
    lines.extend(braced_lines(2, [("view", nodes_lines(component["view"], 3))]))
    parameters = names_text(component["parameters"])
    return braced_lines(1, [("component " + component["name"] + "(" + parameters + ")", lines)])


def names_text(names):
    """Returns the text of names with commas between them."""
    return ", ".join(names)


def block_lines(block, level):
    """Returns the lines of the statements of a block, which are on a level."""
    lines = []
    for statement in block:
        lines.extend(statement_lines(statement, level))
    return lines


def block_parts(head, block, word, other, level):
    """Returns the parts of a block and of another one behind a word, which is left out if it is empty."""
    parts = [(head, block_lines(block, level))]
    if other:
        parts.append((word, block_lines(other, level)))
    return parts


def statement_lines(statement, level):
    """Returns the lines of a statement on a level."""
    word = statement[0]
    if word == "if":
        head = "if " + expression_text(statement[1])
        return braced_lines(level, block_parts(head, statement[2], "else", statement[3], level + 1))
    if word == "later":
        return braced_lines(level, [(word, block_lines(statement[1], level + 1))])
    if word in ("after", "every"):
        head = word + " " + expression_text(statement[1])
        return braced_lines(level, [(head, block_lines(statement[2], level + 1))])
    return [margin(level) + simple_text(statement) + ";"]


def simple_text(statement):
    """Returns the text of a statement without a block, up to its semicolon."""
    word = statement[0]
    if word == "set":
        return f"{statement[1]} = {expression_text(statement[2])}"
    if word == "call":
        return f"call {expression_text(statement[1])}({expressions_text(statement[2])})"
    if word == "log":
        return f"log({expressions_text(statement[1])})"
    return word


def nodes_lines(nodes, level):
    """Returns the lines of nodes on a level."""
    lines = []
    for node in nodes:
        lines.extend(node_lines(node, level))
    return lines


def node_lines(node, level):
    """Returns the lines of a node on a level."""
    word = node[0]
    if word == "text":
        return [margin(level) + quoted(node[1])]
    if word == "show":
        return [margin(level) + in_braces(node[1])]
    if word == "slot":
        return [margin(level) + word]
    if word == "element":
        head = node[1] + values_text(node[2]) + acts_text(node[3])
        return tagged_lines(node[1], head, node[4], level)
    if word == "use":
        return tagged_lines(node[1], node[1] + values_text(node[2]), node[3], level)
    return braced_lines(level, node_parts(node, level + 1))


def node_parts(node, level):
    """Returns the parts of a node with braces, whose nodes are on a level."""
    word = node[0]
    if word == "if":
        parts = [("if " + expression_text(node[1]), nodes_lines(node[2], level))]
        if node[3]:
            parts.append(("else", nodes_lines(node[3], level)))
        return parts
    if word == "each":
        return [(each_head(node), nodes_lines(node[5], level))]
    if word == "provide":
        return [(f"provide {node[1]} = {expression_text(node[2])}", nodes_lines(node[3], level))]
    if word == "await":
        return [("await", nodes_lines(node[1], level)), ("else", nodes_lines(node[2], level))]
    return [("try", nodes_lines(node[1], level)), ("catch " + node[2], nodes_lines(node[3], level))]


def each_head(node):
    """Returns what stands ahead of the braces of an `each`."""
    head = "each " + node[1]
    if node[2] is not None:
        head = head + ", " + node[2]
    head = head + " in " + expression_text(node[3])
    if node[4] is not None:
        head = head + " by " + expression_text(node[4])
    return head


def tagged_lines(tag, head, kids, level):
    """Returns the lines of an element or a use; the head is what stands in its tag."""
    begin = margin(level)
    if not kids:
        return [f"{begin}<{head}/>"]
    return [f"{begin}<{head}>", *nodes_lines(kids, level + 1), f"{begin}</{tag}>"]


def in_braces(expression):
    """Returns the text of an expression in its braces."""
    return "{" + expression_text(expression) + "}"


def values_text(values):
    """Returns the text of the attributes or parameters in a tag."""
    text = ""
    for name, expression in values:
        shown = expression_text(expression) if expression[0] == "text" else in_braces(expression)
        text = text + " " + name + "=" + shown
    return text


def acts_text(acts):
    """Returns the text of the acts in a tag."""
    text = ""
    for event, expression in acts:
        text = text + " on " + event + "=" + in_braces(expression)
    return text
