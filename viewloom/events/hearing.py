"""Who hears an event, and in which lane."""

from viewloom.lanes.schedule import Schedule
from viewloom.values.plain import copy_of

SYNC_EVENTS = ("click", "input", "change", "keydown", "keyup")
EVENTS_TO_THE_END = ("input", "change")
ON_THE_WAY_DOWN = "_down"


def hearers(acts, path, event):
    """Returns the list of the acts that hear an event, where acts is a dict of ids with their lists of acts."""
    there = [number for number in path if number in acts]
    found = []
    for number in reversed(there):
        found += acts_for(acts[number], event + ON_THE_WAY_DOWN)
    for number in there:
        found += acts_for(acts[number], event)
    return found


def acts_for(pairs, word):
    """Returns the list of those acts of an element that stand for a word."""
    return [copy_of(act) for event, act in pairs if event == word]


def lane_of(event):
    """Returns the lane of an event."""
    if event in SYNC_EVENTS:
        return Schedule.SYNC
    return Schedule.USUAL


def can_prevent(event):
    """Returns whether an event can be prevented."""
    return event not in EVENTS_TO_THE_END
