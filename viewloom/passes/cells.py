"""Cells, which keep state and the updates that wait for it."""

from viewloom.values.copies import copied_names, copied_source
from viewloom.values.evaluating import evaluate
from viewloom.values.plain import copy_of, same, same_records

MOST_UPDATES = 50


class Cell:
    """A name, a base value, a queue of updates and a present value.

    An update in the queue is a list: whether it is marked, its lane, its expression and its environment.
    """

    def __init__(self, name, value):
        self.name = name
        self.base = copy_of(value)
        self.queue = []
        self.value = copy_of(value)

    @property
    def present(self):
        """The present value."""
        return copy_of(self.value)

    @property
    def waiting(self):
        """The number of updates that are not marked."""
        return len([update for update in self.queue if not update[0]])

    @property
    def open_lanes(self):
        """The lanes of the updates that are not marked, ascending, each once."""
        return sorted(list({update[1]: True for update in self.queue if not update[0]}))

    def __eq__(self, other):
        """Returns whether another cell has the same name, base, queue and value."""
        if not isinstance(other, Cell):
            return NotImplemented
        if self.name != other.name or not same(self.base, other.base) or not same(self.value, other.value):
            return False
        return same_queues(self.queue, other.queue)

    def send(self, lane, expression, environment):
        """Puts an update into the queue, unless it is full; returns whether it is in."""
        if len(self.queue) >= MOST_UPDATES:
            return False
        self.queue.append(copied_update([False, lane, expression, environment]))
        return True

    def copied(self):
        """Returns an equal cell that shares nothing with this one."""
        cell = Cell(self.name, self.base)
        cell.queue = [copied_update(update) for update in self.queue]
        cell.value = copy_of(self.value)
        return cell

    def processed(self, lanes, *, owner):
        """Returns a new cell, in which the updates of some lanes are marked and all marked ones are applied."""
        base = self.base
        value = base
        rest = []
        for update in self.queue:
            marked, lane, expression, environment = copied_update(update)
            marked = marked or lane in lanes
            if marked:
                value = evaluate(expression, {**environment, self.name: value}, owner)
            if marked and not rest:
                base = value
            else:
                rest.append([marked, lane, expression, environment])
        cell = Cell(self.name, base)
        cell.queue = rest
        cell.value = copy_of(value)
        return cell


def copied_update(update):
    """Returns a copy of an update of a queue."""
    marked, lane, expression, environment = update
    return [marked, lane, copied_source(expression), copied_names(environment)]


def same_queues(a, b):
    """Returns whether two queues have the same updates in the same order."""
    if len(a) != len(b):
        return False
    for left, right in zip(a, b):
        if left[:3] != right[:3] or not same_records(left[3], right[3]):
            return False
    return True
