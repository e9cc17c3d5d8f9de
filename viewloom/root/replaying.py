"""Replays recordings."""

from viewloom.errors import InvalidRecording, ViewError
from viewloom.root.root import Root
from viewloom.tools.calls import read_recording
from viewloom.values.plain import is_list, is_number, is_record, is_text


def do_work(root, n):
    """Does portions."""
    root.work(n)


def do_flush(root):
    """Makes all passes."""
    root.flush()


def do_advance(root, ticks):
    """Lets the clock go on."""
    root.advance(ticks)


def do_set(root, number, cell, value, lane):
    """Sends an update to a cell."""
    root.set_cell(number, cell, value, lane)


def do_run(root, number, handler, given, lane):
    """Calls a handler."""
    root.run_handler(number, handler, given, lane)


def do_values(root, values, lane):
    """Gives other parameters."""
    root.set_values(values, lane)


def do_store(root, name, value):
    """Gives a store a value."""
    root.set_store(name, value)


def do_answer(root, key, value):
    """Gives an answer."""
    root.answer(key, value)


def do_fail(root, key, message):
    """Gives an error as an answer."""
    root.fail(key, message)


def do_event(root, number, event, details):
    """Sends an event."""
    root.event(number, event, details)


def do_click(root, number):
    """Clicks."""
    root.click(number)


def do_enter(root, number, text):
    """Enters a text."""
    root.enter(number, text)


def do_clear(root, number):
    """Clears a field."""
    root.clear(number)


def do_choose(root, number, value):
    """Chooses a value."""
    root.choose(number, value)


def do_take_log(root):
    """Takes the log."""
    root.take_log()


def do_unmount(root):
    """Lets the root show nothing."""
    root.unmount()


ACTIONS = {
    "work": do_work,
    "flush": do_flush,
    "advance": do_advance,
    "set": do_set,
    "run": do_run,
    "values": do_values,
    "store": do_store,
    "answer": do_answer,
    "fail": do_fail,
    "event": do_event,
    "click": do_click,
    "enter": do_enter,
    "clear": do_clear,
    "choose": do_choose,
    "take_log": do_take_log,
    "unmount": do_unmount,
}
# The kinds of the arguments of each call.
KINDS = {
    "work": ("count",),
    "flush": (),
    "advance": ("count",),
    "set": ("number", "text", "value", "text"),
    "run": ("number", "text", "list", "text"),
    "values": ("record", "text"),
    "store": ("text", "value"),
    "answer": ("value", "value"),
    "fail": ("value", "text"),
    "event": ("number", "text", "record"),
    "click": ("number",),
    "enter": ("number", "text"),
    "clear": ("number",),
    "choose": ("number", "text"),
    "take_log": (),
    "unmount": (),
}


def is_of_kind(value, kind):
    """Returns whether an argument is of a kind."""
    if kind == "count":
        return is_number(value) and value >= 0
    if kind == "number":
        return is_number(value)
    if kind == "text":
        return is_text(value)
    if kind == "list":
        return is_list(value)
    if kind == "record":
        return is_record(value)
    return True


def fit(arguments, kinds):
    """Returns whether arguments are of kinds, one by one."""
    if len(arguments) != len(kinds):
        return False
    return all([is_of_kind(argument, kind) for argument, kind in zip(arguments, kinds)])


def replay(program, texts):
    """Returns the root of which a list of texts is the recording."""
    calls = read_recording(texts)
    _, (component, values) = calls[0]
    try:
        root = Root(program, component, values)
    except ViewError:
        raise InvalidRecording(0)
    for index, (name, arguments) in enumerate(calls):
        if index > 0:
            call_again(root, index, name, arguments)
    return root


def call_again(root, index, name, arguments):
    """Makes the call of the entry with an index."""
    if name not in KINDS or not fit(arguments, KINDS[name]):
        raise InvalidRecording(index)
    action = ACTIONS[name]
    try:
        action(root, *arguments)
    except ViewError:
        raise InvalidRecording(index)
