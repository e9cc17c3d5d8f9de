"""Renders roots to text, and takes such text over."""

from viewloom.errors import RenderingFailed, RenderingHeld
from viewloom.passes.instances import image
from viewloom.root.root import Root
from viewloom.root.trees import read_document, written_tree
from viewloom.root.working import draft_of, finish, next_pass
from viewloom.server.reading import read_tree
from viewloom.server.taking import compare_trees
from viewloom.server.writing import write_tree


def first_draft(root):
    """Returns the first pass of a root, which must give a tree."""
    draft = draft_of(root, next_pass(root)[0])
    word, found = draft.outcome
    if word == "fails":
        raise RenderingFailed(found)
    if word != "tree":
        raise RenderingHeld("the first pass waits")
    return draft


def render_text(program, component, values, answers):
    """Returns the text of the first pass of a root that has some answers."""
    draft = first_draft(Root(program, component, values, answers=answers))
    return write_tree(written_tree([draft.outcome[1]]))


def take_over(program, component, values, text, answers):
    """Returns a root that goes on with a text, the differences of the text, and the numbers of its late awaits."""
    root = Root(program, component, values, answers=answers)
    draft = first_draft(root)
    read = read_tree(text)
    tree = [draft.outcome[1]]
    comparison = compare_trees(read, written_tree(tree))
    root.document = read_document(read, comparison.partners, tuple(image(tree)), draft.made.next_id)
    root.notes = None
    finish(root, draft)
    return (root, comparison.differences, comparison.late)
