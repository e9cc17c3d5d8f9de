"""Writes written trees."""

EMPTY_TEXT = "<!--e-->"
BETWEEN_TEXTS = "<!--t-->"
AWAIT_END = "<!--]-->"


def write_tree(nodes):
    """Returns the text of a written tree."""
    pieces = []
    is_behind_text = False
    for node in nodes:
        is_text = node[0] == "text" and node[1] != ""
        if is_behind_text and is_text:
            pieces.append(BETWEEN_TEXTS)
        if node[0] == "await":
            number = "" if node[1] is None else str(node[1])
            pieces.append(f"<!--[{number}-->" + write_tree(node[2]) + AWAIT_END)
        elif node[0] == "element":
            pieces.append(written_element(node, write_tree(node[3])))
        else:
            pieces.append(written_text(node[1]) if is_text else EMPTY_TEXT)
        is_behind_text = is_text
    return "".join(pieces)


def plain_text(nodes):
    """Returns the plain text of a written tree."""
    pieces = []
    for node in nodes:
        if node[0] == "await":
            pieces.append(plain_text(node[2]))
        elif node[0] == "element":
            pieces.append(written_element(node, plain_text(node[3])))
        else:
            pieces.append(written_text(node[1]))
    return "".join(pieces)


def written_text(text):
    """Returns a text as it is written."""
    return text.replace("&", "&amp;").replace("<", "&lt;").replace(">", "&gt;")


def written_value(text):
    """Returns the text of an attribute as it is written."""
    return text.replace("&", "&amp;").replace("<", "&lt;").replace('"', "&quot;")


def written_element(node, inner):
    """Returns the text of an element, of which the text of its kids is given."""
    _, tag, attributes, _ = node
    pairs = "".join([f' {name}="{written_value(text)}"' for name, text in attributes])
    return f"<{tag}{pairs}>{inner}</{tag}>"
