"""Lets the clock of a root go on."""

from viewloom.commits.performing import perform
from viewloom.root.deeds import add_line, do_deeds

MOST_FIRED = 50


def advance_clock(root, ticks):
    """Lets the clock go on, and the timers that are due fire."""
    end = root.clock + ticks
    fired = 0
    while is_due(root, end):
        if fired == MOST_FIRED:
            return
        fired += 1
        fire(root)
    root.clock = end


def is_due(root, tick):
    """Returns whether a timer is due at a tick or ahead of it."""
    due = root.timers.next_due()
    return due is not None and due <= tick


def fire(root):
    """Lets the timer fire that is next."""
    root.clock = root.timers.next_due()
    owner, lane, environment, block, run = root.timers.fire()
    # A timer that a handler has started keeps the event of the handler, which is over by now.
    if "event" in environment:
        environment["event"] = None
    done = perform(root.program, root.tree, block, owner=owner, environment=environment, lane=lane)
    do_deeds(root, done.deeds, run)
    if done.fault is not None:
        add_line(root, [done.fault])
