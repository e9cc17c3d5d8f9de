"""Roots."""

from viewloom.commits.timers import Timers
from viewloom.documents.nodes import walk
from viewloom.errors import UnknownComponent, UnknownParameter
from viewloom.events.controls import Controls
from viewloom.events.gestures import choose, clear, click, enter
from viewloom.lanes.schedule import Schedule, lane_number
from viewloom.passes.instances import copied, find
from viewloom.passes.programs import component_named
from viewloom.root.answering import give_answer
from viewloom.root.committing import end_tree
from viewloom.root.deeds import put_store, put_value, wake
from viewloom.root.exchanging import exchange
from viewloom.root.sending import Stage, call_handler, send
from viewloom.root.ticking import advance_clock
from viewloom.root.trees import written_document
from viewloom.root.working import do_portions, make_passes
from viewloom.server.writing import plain_text
from viewloom.tools.calls import write_call
from viewloom.tools.why import why
from viewloom.values.copies import copied_names
from viewloom.values.plain import copy_of, has_act, same_records


class Root:
    """Shows a component of a program."""

    def __init__(self, program, component, values, *, answers=()):
        shown = component_named(program, component)
        if shown is None:
            raise UnknownComponent(component)
        check_values(shown, values)
        self.program = program
        self.component = component
        self.parameters = copied_names(values)
        self.stores = copied_names(dict(program["stores"]))
        self.answers = [(copy_of(key), (word, copy_of(given))) for key, (word, given) in answers]
        self.clock = 0
        self.commits = 0
        self.error = None
        self.document = ()
        self.operations = []
        self.panel = Controls()
        self.timers = Timers()
        self.schedule = Schedule()
        self.log = []
        # The tree is a list of one instance, or empty; the one before is that before the last commit.
        self.tree = []
        self.before = []
        self.rendered = []
        self.next_id = 1
        self.last_run = 0
        self.requests = []
        self.held_lanes = []
        self.held_keys = []
        # The texts of the recording, or None if there is none.
        self.notes = None if self.answers else []
        self.note("root", [component, values])
        wake(self, Schedule.USUAL)

    def note(self, name, values):
        """Notes a call in the recording, if there is one."""
        if has_act(values):
            self.notes = None
        elif self.notes is not None:
            self.notes.append(write_call(name, values))

    @property
    def controls(self):
        """Controls that are equal to those of the root."""
        return self.panel.fork()

    @property
    def pending(self):
        """The list of the pending lanes with their ticks."""
        return self.schedule.pending

    @property
    def is_held(self):
        """Whether a pass is held."""
        return len(self.held_lanes) > 0

    def last_operations(self):
        """Returns the list of the operations of the last commit."""
        return list(self.operations)

    def store_values(self):
        """Returns the dict of the values of the stores."""
        return copied_names(self.stores)

    def open_keys(self):
        """Returns the list of the keys that were asked for and have no answer."""
        return copy_of(self.requests)

    def log_lines(self):
        """Returns the lines of the log."""
        return copy_of(self.log)

    def whole_tree(self):
        """Returns a copy of the tree, a list of instances."""
        return copied(self.tree)

    def rendered_ids(self):
        """Returns the list of the ids of what the last pass that ended has rendered."""
        return list(self.rendered)

    def running_timers(self):
        """Returns the list of the timers."""
        return self.timers.told

    def work(self, n):
        """Does portions; returns whether the root is settled, and how many commits there were."""
        before = self.commits
        settled = do_portions(self, n)
        self.note("work", [n])
        return (settled, self.commits - before)

    def flush(self):
        """Makes all passes; returns whether no lane is pending, and how many commits there were."""
        before = self.commits
        settled = make_passes(self)
        self.note("flush", [])
        return (settled, self.commits - before)

    def advance(self, ticks):
        """Lets the clock go on, and returns it."""
        advance_clock(self, ticks)
        self.note("advance", [ticks])
        return self.clock

    def set_cell(self, number, cell, value, lane="usual"):
        """Sends an update that gives a value to a cell; returns whether there is such a cell."""
        is_there = put_value(self, number, cell, value, lane_number(lane))
        self.note("set", [number, cell, value, lane])
        return is_there

    def run_handler(self, number, handler, arguments, lane="usual"):
        """Calls a handler; returns whether it is there, whether it prevented, and its fault or None."""
        told = call_handler(self, number, handler, arguments, lane_number(lane))
        self.note("run", [number, handler, arguments, lane])
        return told

    def set_values(self, values, lane="usual"):
        """Gives the root other parameters."""
        chosen = lane_number(lane)
        check_values(component_named(self.program, self.component), values)
        if not same_records(self.parameters, values):
            self.schedule.give_up()
        self.parameters = copied_names(values)
        wake(self, chosen)
        self.note("values", [values, lane])

    def set_store(self, name, value):
        """Gives a store a value; returns whether it is there and had another one."""
        is_changed = put_store(self, name, value)
        self.note("store", [name, value])
        return is_changed

    def answer(self, key, value):
        """Gives the value of the answer for a key; returns whether it was asked for."""
        was_asked = give_answer(self, key, ("value", value))
        self.note("answer", [key, value])
        return was_asked

    def fail(self, key, message):
        """Gives an error as the answer for a key; returns whether it was asked for."""
        was_asked = give_answer(self, key, ("error", message))
        self.note("fail", [key, message])
        return was_asked

    def event(self, number, event, details):
        """Sends an event to a node; returns whether it was heard, whether it was prevented, and the faults."""
        told = send(self, number, event, details)
        self.note("event", [number, event, details])
        return told

    def click(self, number):
        """Clicks at a node."""
        click(Stage(self), number)
        self.note("click", [number])

    def enter(self, number, text):
        """Enters a text at a field."""
        enter(Stage(self), number, text)
        self.note("enter", [number, text])

    def clear(self, number):
        """Clears a field."""
        clear(Stage(self), number)
        self.note("clear", [number])

    def choose(self, number, value):
        """Chooses a value at a select."""
        choose(Stage(self), number, value)
        self.note("choose", [number, value])

    def cells(self, number):
        """Returns the names, values and numbers of open updates of the cells of a component, or None."""
        instance = find(self.tree, number)
        if instance is None or instance.form != "component":
            return None
        return [(cell.name, cell.present, cell.waiting) for cell in instance.cells]

    def ids_of_tag(self, tag):
        """Returns the list of the ids of the elements with a tag."""
        return [node[1] for _, node in walk(self.document) if node[0] == "element" and node[2] == tag]

    def html(self):
        """Returns the plain text of the document."""
        return plain_text(written_document(self.document))

    def why(self):
        """Returns why components were rendered for the last commit."""
        return why(self.program, self.before, self.tree)

    def recording(self):
        """Returns the texts of the calls of the root, or None."""
        if self.notes is None:
            return None
        return list(self.notes)

    def take_log(self):
        """Returns the lines of the log, which is empty then."""
        lines = self.log
        self.log = []
        self.note("take_log", [])
        return lines

    def replace(self, program):
        """Gives the root another program; returns whether it has it now."""
        is_replaced = exchange(self, program)
        if is_replaced:
            self.notes = None
        return is_replaced

    def unmount(self):
        """Lets the root show nothing any more."""
        end_tree(self, None)
        self.note("unmount", [])


def check_values(component, values):
    """Raises the error for the first name of values that is no parameter of a component."""
    for name in values:
        if name not in component["parameters"]:
            raise UnknownParameter(name)
