"""Cells, updates and processing ([44], [45])."""

import copy
import itertools
import random
import unittest

from tests.helpers import expression, fault_of, shares
from viewloom.errors import Fault
from viewloom.passes.cells import Cell
from viewloom.values.evaluating import evaluate

ADD = expression("n + d")
TWICE = expression("n * 2")


def cell_of(value, *updates):
    """Returns a cell named n with updates: pairs of a lane and what is added."""
    cell = Cell("n", value)
    for lane, by in updates:
        cell.send(lane, ADD, {"d": by})
    return cell


def lanes_of(cell):
    return [(marked, lane, environment["d"]) for marked, lane, _, environment in cell.queue]


class Cells(unittest.TestCase):
    def test_a_new_cell(self):
        cell = Cell("count", [1])
        self.assertEqual((cell.name, cell.base, cell.queue, cell.present, cell.waiting, cell.open_lanes),
                         ("count", [1], [], [1], 0, []))

    def test_sending(self):
        cell = Cell("n", 5)
        self.assertIs(cell.send(2, ADD, {"d": 1}), True)
        self.assertIs(cell.send(0, TWICE, {}), True)
        self.assertEqual(cell.queue, [[False, 2, ADD, {"d": 1}], [False, 0, TWICE, {}]])
        self.assertEqual((cell.base, cell.present, cell.waiting, cell.open_lanes), (5, 5, 2, [0, 2]))

    def test_the_50th_and_the_51st_update(self):
        cell = Cell("n", 0)
        self.assertEqual([cell.send(1, ADD, {"d": 1}) for _ in range(53)], [True] * 50 + [False] * 3)
        self.assertEqual((len(cell.queue), cell.waiting), (50, 50))
        self.assertEqual(cell.processed([1], owner=1).present, 50)
        # Marked ones count, too, as long as they are in the queue.
        cell = cell_of(0, (3, 1), *[(1, 1)] * 48)
        other = cell.processed([1], owner=1)
        self.assertEqual((len(other.queue), other.waiting), (49, 1))
        self.assertEqual([other.send(0, ADD, {"d": 1}) for _ in range(3)], [True, False, False])
        other = other.processed([3], owner=1)
        self.assertEqual((len(other.queue), other.waiting), (1, 1))
        self.assertIs(other.send(0, ADD, {"d": 1}), True)

    def test_processing(self):
        cell = cell_of(10, (1, 1), (2, 20), (1, 3), (3, 4))
        first = cell.processed([1], owner=1)
        self.assertEqual((first.base, first.present, first.waiting, first.open_lanes), (11, 14, 2, [2, 3]))
        self.assertEqual(lanes_of(first), [(False, 2, 20), (True, 1, 3), (False, 3, 4)])
        second = first.processed([3], owner=1)
        self.assertEqual((second.base, second.present, second.waiting, second.open_lanes), (11, 18, 1, [2]))
        self.assertEqual(lanes_of(second), [(False, 2, 20), (True, 1, 3), (True, 3, 4)])
        third = second.processed([2], owner=1)
        self.assertEqual((third.base, third.present, third.waiting, third.queue), (38, 38, 0, []))
        self.assertEqual((cell.base, cell.present, cell.waiting), (10, 10, 4))
        self.assertEqual(lanes_of(cell), [(False, 1, 1), (False, 2, 20), (False, 1, 3), (False, 3, 4)])
        every = cell.processed([0, 1, 2, 3], owner=1)
        self.assertEqual((every.base, every.present, every.queue), (38, 38, []))

    def test_the_order_of_the_queue_counts(self):
        cell = Cell("n", 1)
        cell.send(1, TWICE, {})
        cell.send(0, ADD, {"d": 5})
        cell.send(1, TWICE, {})
        self.assertEqual(cell.processed([0], owner=1).present, 6)
        self.assertEqual(cell.processed([1], owner=1).present, 4)
        self.assertEqual(cell.processed([0, 1], owner=1).present, 14)
        self.assertEqual(cell.processed([1], owner=1).processed([0], owner=1).present, 14)
        self.assertEqual(cell.processed([0], owner=1).processed([1], owner=1).present, 14)

    def test_no_lanes(self):
        cell = cell_of(1, (1, 1))
        self.assertEqual(cell.processed([], owner=1), cell)
        first = cell_of(1, (2, 1), (1, 1)).processed([1], owner=1)
        self.assertEqual(first.processed([], owner=1), first)
        self.assertEqual((first.base, first.present), (1, 2))

    def test_a_lane_that_no_update_has(self):
        cell = cell_of(1, (1, 1), (2, 2))
        self.assertEqual(cell.processed([0, 3], owner=1), cell)

    def test_expressions(self):
        for source, value, environment, expected in [
            ("n", [1], {}, [1]), ("n + [d]", [1], {"d": 2}, [1, 2]), ("{a: n, b: d}", None, {"d": 3},
                                                                       {"a": None, "b": 3}),
            ("d", 1, {"d": {"x": [1]}, "n": 7}, {"x": [1]}), ("n + n", "ab", {"n": 7}, "abab"),
            ("[n for n in n]", [1, 2], {}, [1, 2]), ("do go(n)", 4, {}, ("act", 9, "go", [4])),
        ]:
            cell = Cell("n", value)
            cell.send(1, expression(source), environment)
            found = cell.processed([1], owner=9)
            self.assertEqual((found.present, found.base), (expected, expected))

    def test_the_owner(self):
        cell = Cell("n", None)
        cell.send(1, expression("do a()"), {})
        self.assertEqual(cell.processed([1], owner=77).present, ("act", 77, "a", []))

    def test_faults(self):
        for place in range(3):
            cell = cell_of(0, (1, 1), (1, 2), (1, 3))
            cell.queue[place][2] = expression("n / 0")
            kept = copy.deepcopy(vars(cell))
            for lanes in ([1], [0, 1, 2]):
                self.assertEqual(fault_of(lambda: cell.processed(lanes, owner=1)), "division by 0")
                self.assertEqual(vars(cell), kept)
            self.assertEqual(cell.processed([0], owner=1), cell)
        cell = cell_of("a", (1, 1))
        cell.send(2, expression("n.x"), {})
        cell.send(2, expression("n - 1"), {})
        first = cell.processed([1], owner=1)
        self.assertEqual(first.present, "a1")
        kept = copy.deepcopy(vars(first))
        with self.assertRaises(Fault) as caught:
            first.processed([2], owner=1)
        self.assertEqual(caught.exception.message, "not a record")
        self.assertEqual(vars(first), kept)

    def test_a_fault_of_a_marked_update(self):
        # It is marked without a fault, and has one when the update ahead of it is marked, too.
        cell = Cell("n", 1)
        cell.send(2, expression('"text"'), {})
        cell.send(1, expression("n - 1"), {})
        first = cell.processed([1], owner=1)
        self.assertEqual(first.present, 0)
        self.assertEqual(fault_of(lambda: first.processed([2], owner=1)), "not a number")

    def test_equality(self):
        def whole():
            cell = cell_of([1], (2, [2]), (1, [3]))
            return cell.processed([1], owner=1)

        self.assertTrue(whole() == whole())
        self.assertFalse(whole() != whole())
        self.assertTrue(whole() == whole().copied())

        def changed(change):
            cell = whole()
            change(cell)
            return cell

        def put(cell, place, value):
            cell.queue[0][place] = value

        for change in [
            lambda cell: setattr(cell, "name", "m"), lambda cell: setattr(cell, "base", [2]),
            lambda cell: setattr(cell, "base", [True]), lambda cell: cell.queue.pop(),
            lambda cell: cell.queue.append(cell.queue[0]), lambda cell: cell.queue.reverse(),
            lambda cell: put(cell, 0, True), lambda cell: put(cell, 1, 3), lambda cell: put(cell, 2, TWICE),
            lambda cell: put(cell, 3, {"d": [4]}), lambda cell: put(cell, 3, {"d": [2], "more": 1}),
            lambda cell: put(cell, 3, {}), lambda cell: cell.send(1, ADD, {}),
        ]:
            self.assertFalse(whole() == changed(change))
            self.assertFalse(changed(change) == whole())
        # The same but for the value.
        first, second = Cell("n", 1), Cell("n", 1)
        for cell, by in ((first, 2), (second, 2)):
            cell.send(2, ADD, {"d": 0})
            cell.send(1, ADD, {"d": by})
        self.assertTrue(first == second)
        self.assertFalse(first == second.processed([1], owner=1))
        self.assertFalse(Cell("n", 1) == Cell("n", True))
        self.assertTrue(Cell("n", {"a": 1, "b": 2}) == Cell("n", {"b": 2, "a": 1}))
        self.assertFalse(Cell("n", 1) == 1)
        self.assertFalse(Cell("n", 1) == None)  # noqa: E711

    def test_copied(self):
        cell = cell_of([1], (2, [2]), (1, [3])).processed([1], owner=1)
        other = cell.copied()
        self.assertTrue(cell == other)
        self.assertFalse(shares(cell, other))
        kept = copy.deepcopy(vars(cell))
        other.base.append(9)
        other.queue[0][3]["d"].append(9)
        other.queue.clear()
        other.send(1, ADD, {"d": [4]})
        self.assertEqual(vars(cell), kept)
        self.assertEqual(cell.present, [1, 3])

    def test_nothing_is_shared(self):
        value = [[1]]
        environment = {"d": [[2]]}
        added = expression("n + d + [max(1, 2)]")
        cell = Cell("n", value)
        cell.send(1, added, environment)
        cell.send(2, added, environment)
        # Lists that are changed afterwards.
        value[0].append(9)
        environment["d"][0].append(9)
        environment["d"].append(9)
        environment["more"] = 1
        self.assertEqual(cell.present, [[1]])
        found = cell.processed([1], owner=1)
        self.assertEqual(found.present, [[1], [2], 2])
        self.assertFalse(shares(cell, found))
        kept = copy.deepcopy((vars(cell), vars(found)))
        cell.present[0].append(9)
        found.present.clear()
        cell.open_lanes.clear()
        self.assertEqual((vars(cell), vars(found)), kept)
        found.base[0].append(9)
        found.queue[0][3]["d"].clear()
        self.assertEqual(vars(cell), kept[0])
        self.assertEqual(found.present, [[1], [2], 2])

    def test_random_queues(self):
        for seed in range(300):
            chance = random.Random(seed)
            sources = [expression(source) for source in ["n + d", "n * 2", "d", "n - 3"]]
            updates = [(chance.randrange(4), chance.choice(sources), {"d": chance.randint(0, 9)})
                       for _ in range(chance.randint(0, 8))]
            cell = Cell("n", 1)
            for update in updates:
                cell.send(*update)
            marked = set()
            for _ in range(4):
                lanes = chance.sample(range(4), chance.randint(0, 2))
                marked |= set(lanes)
                cell = cell.processed(lanes, owner=1)
                value = 1
                for lane, source, environment in updates:
                    if lane in marked:
                        value = evaluate(source, {**environment, "n": value}, 1)
                left = list(itertools.dropwhile(lambda update: update[0] in marked, updates))
                self.assertEqual(cell.present, value)
                self.assertEqual([(lane, source, env) for _, lane, source, env in cell.queue], left)
                self.assertEqual([update[0] for update in cell.queue], [lane in marked for lane, _, _ in left])
                self.assertEqual(cell.open_lanes, sorted({lane for lane, _, _ in left} - marked))
                self.assertEqual(cell.waiting, sum(lane not in marked for lane, _, _ in left))
