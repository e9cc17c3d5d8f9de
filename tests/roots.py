"""Roots for tests: making them, and telling all that can be asked."""

from tests.passes import short, told
from viewloom.checks.checking import Checker
from viewloom.documents.operations import apply_all
from viewloom.passes.instances import walk
from viewloom.root.root import Root
from viewloom.words.reading import parse_program


def rooted(source, values=None, answers=(), component="Main", settled=True):
    """A root of a source, which has made its first passes unless it is told not to."""
    program = parse_program(source)
    Checker(program).check()
    root = Root(program, component, values or {}, answers=answers)
    if settled:
        root.flush()
    return root


def component(lines="", view="", parameters="", stores="", more=""):
    """The source of a program with a component Main."""
    return f"{stores} component Main({parameters}) {{ {lines} view {{ {view} }} }} {more}"


def asked(root, recorded=True):
    """All that a root can be asked, its recording included if nothing else is said."""
    controls = root.controls
    return repr((
        root.clock, root.commits, root.error, root.document, [(n, controls.shown(n)) for n in range(1, 60)],
        len(controls), root.pending, root.is_held, root.last_operations(), root.store_values(), root.open_keys(),
        root.log_lines(), told(root.whole_tree()), root.rendered_ids(), root.running_timers(), root.html(), root.why(),
        root.recording() if recorded else None, root.ids_of_tag("p"), [root.cells(n) for n in range(1, 60)], root.schedule.done,
    ))


def in_short(root):
    return short(root.whole_tree())


def first_of(root, name):
    """The id of the first instance of a name."""
    return [one.number for one in walk(root.whole_tree()) if one.name == name][0]


def lanes(root):
    return [lane for lane, _ in root.pending]


class Watch:
    """Checks that the operations of each commit lead from the document before to the one behind."""

    def __init__(self, case, root):
        self.case = case
        self.root = root
        self.document = root.document
        self.commits = root.commits

    def look(self):
        if self.root.commits == self.commits + 1:
            self.case.assertEqual(apply_all(self.document, self.root.last_operations()), self.root.document)
        if self.root.commits == self.commits:
            self.case.assertEqual(self.document, self.root.document)
        self.document = self.root.document
        self.commits = self.root.commits
