"""Compares a written tree that was read with the one that is now.

A list is compared as a row of its nodes, in which an await is a mark ahead of what stands in it, ("await", number),
and a mark behind that, ("end",).
"""

from viewloom.errors import MissingAnswer

# By how many awaits there are more around what stands behind a part of a row.
TURNS = {"await": 1, "end": -1, "node": 0}


class Comparison:
    """What a comparison found."""

    def __init__(self):
        self.differences = []
        self.late = []
        self.partners = []


class Side:
    """A row of one of the two trees, and how far it was compared."""

    def __init__(self, nodes, path):
        self.row = row_of(nodes)
        self.at = 0
        # The path of the node around the row, and the index of the next node in it.
        self.path = path
        self.index = 0

    def word(self):
        """Returns what stands next: "node", "await", "end", or "" behind all of them."""
        if self.at == len(self.row):
            return ""
        word = self.row[self.at][0]
        return word if word in TURNS else "node"

    def part(self):
        """Returns the node or the mark that stands next."""
        return self.row[self.at]

    def place(self):
        """Returns the path of the node that stands next."""
        return (*self.path, self.index)

    def step(self):
        """Goes on behind what stands next."""
        if self.word() == "node":
            self.index += 1
        self.at += 1

    def step_over(self):
        """Goes on behind the await that stands next."""
        around = 1
        self.step()
        while around > 0:
            around += TURNS[self.word()]
            self.step()

    def drop_marks(self):
        """Lets no await count that was not compared yet."""
        self.row = [part for part in self.row[self.at:] if part[0] not in ("await", "end")]
        self.at = 0


def row_of(nodes):
    """Returns the row of a list of nodes."""
    row = []
    for node in nodes:
        if node[0] == "await":
            row += [("await", node[1]), *row_of(node[2]), ("end",)]
        else:
            row.append(node)
    return row


def compare_trees(read, now):
    """Returns the Comparison of two written trees."""
    comparison = Comparison()
    compare_rows(comparison, Side(read, ()), Side(now, ()))
    return comparison


def compare_rows(comparison, read, now):
    """Compares two rows from left to right."""
    while read.word() or now.word():
        words = (read.word(), now.word())
        if words == ("await", "await"):
            compare_awaits(comparison, read, now)
        elif "await" in words:
            read.drop_marks()
            now.drop_marks()
        elif words == ("node", "node"):
            compare_nodes(comparison, read, now)
            read.step()
            now.step()
        elif words[1] == "node":
            comparison.differences.append((now.place(), "missing"))
            now.step()
        elif words[0] == "node":
            comparison.differences.append((read.place(), "extra"))
            read.step()
        else:
            # Awaits were begun together on both sides, so that both end here.
            read.step()
            now.step()


def compare_awaits(comparison, read, now):
    """Goes into two awaits, or behind them if the first one waited and the second one does not."""
    _, number = read.part()
    _, present = now.part()
    if number is None and present is not None:
        raise MissingAnswer("an await that showed its kids waits now")
    if number is not None and present is None:
        comparison.late.append(number)
        read.step_over()
        now.step_over()
    else:
        read.step()
        now.step()


def compare_nodes(comparison, read, now):
    """Compares two nodes that are no awaits, and what is in them."""
    one = read.part()
    other = now.part()
    if one[0] != other[0] or (one[0] == "element" and one[1] != other[1]):
        comparison.differences.append((now.place(), "node"))
        return
    comparison.partners.append((read.place(), now.place()))
    if one[0] == "text":
        if one[1] != other[1]:
            comparison.differences.append((now.place(), "text"))
        return
    if dict(one[2]) != dict(other[2]):
        comparison.differences.append((now.place(), "attributes"))
    compare_rows(comparison, Side(one[3], read.place()), Side(other[3], now.place()))
