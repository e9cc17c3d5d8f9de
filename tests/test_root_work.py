"""Settling, portions and flushing ([79], with [41] to [43] and [49])."""

import random
import unittest

from tests.roots import Watch, asked, component, lanes, rooted

# Its first pass costs 9 portions.
LEAVES = component(
    "state n = 0; state m = 0; handler more(x) { n = n + x; }", "{m} each x in range(8) { <Leaf x={x + n}/> }", "a",
    "store s = 0;", "component Leaf(x) { view { {x} } }"
)
# Each commit sets the store again, up to a number.
COUNTING = component("effect [s] { if s < most { s = s + 1; } }", "{s}", "most", "store s = 0;")
# Each commit wakes the lane usual again.
GOING = component("state n = 0; effect [n] { if n < most { n = n + 1; } }", "{n}", "most")


class Portions(unittest.TestCase):
    def test_as_many_as_it_costs(self):
        root = rooted(LEAVES, settled=False)
        for done in range(1, 9):
            self.assertEqual(root.work(1), (True, 0))
            self.assertEqual((root.schedule.done, root.commits, root.html(), root.pending), (done, 0, "", [(1, 0)]))
            self.assertEqual((root.rendered_ids(), root.whole_tree()), ([], []))
        self.assertEqual(root.work(1), (True, 1))
        self.assertEqual((root.html(), root.pending, len(root.rendered_ids())), ("001234567", [], 9))
        self.assertEqual(root.work(5), (True, 0))

    def test_portions_at_once(self):
        for count in range(12):
            root = rooted(LEAVES, settled=False)
            self.assertEqual(root.work(count), (True, 1 if count >= 9 else 0))
        self.assertEqual(rooted(LEAVES, settled=False).work(10 ** 9), (True, 1))

    def test_a_portion_changes_nothing_else(self):
        root = rooted(component('resource r = "k";', "{r}") , settled=False)
        self.assertEqual(root.work(1), (True, 0))
        self.assertEqual((root.open_keys(), root.is_held), (["k"], True))
        root = rooted(component("", "each x in [1, 2] { await { <A x={x}/> } else {} }",
                                more="component A(x) { resource r = x; view {} }"), settled=False)
        before = asked(root, False)
        root.work(1)
        self.assertEqual(asked(root, False).rsplit(", ", 1)[0], before.rsplit(", ", 1)[0])
        root.work(1)
        self.assertEqual(root.open_keys(), [])
        root.work(1)
        self.assertEqual(root.open_keys(), [1, 2])

    def test_several_passes(self):
        root = rooted(LEAVES)
        root.set_cell(1, "n", 1)
        root.set_cell(1, "m", 5, "transition")
        root.set_cell(1, "n", 2, "idle")
        # 9 portions, 1 for what is rendered of the transition, and 9 again.
        self.assertEqual(root.work(8), (True, 0))
        self.assertEqual(root.work(1), (True, 1))
        self.assertEqual((root.html(), lanes(root)), ("012345678", [2, 3]))
        self.assertEqual(root.work(1), (True, 1))
        self.assertEqual((root.html(), lanes(root)), ("512345678", [3]))
        self.assertEqual(root.work(9), (True, 1))
        self.assertEqual((root.html(), root.pending), ("523456789", []))

    def test_sync_is_done_by_settling(self):
        root = rooted(LEAVES)
        root.set_cell(1, "n", 1, "sync")
        root.set_cell(1, "m", 1)
        self.assertEqual(root.work(0), (True, 1))
        self.assertEqual((root.html(), lanes(root)), ("012345678", [1]))
        self.assertEqual(root.work(1), (True, 1))

    def test_overdue_passes_are_whole(self):
        root = rooted(LEAVES)
        root.set_cell(1, "n", 1)
        root.set_cell(1, "m", 7, "transition")
        root.advance(4999)
        self.assertEqual(root.work(3), (True, 0))
        root.advance(1)
        self.assertEqual(root.work(0), (True, 1))
        self.assertEqual((root.html(), root.pending), ("012345678", [(2, 0)]))
        root.set_cell(1, "n", 2)
        root.advance(5000)
        # The transition is overdue, and with it all lanes above it.
        self.assertEqual(root.work(0), (True, 1))
        self.assertEqual((root.html(), root.pending), ("723456789", []))

    def test_given_up(self):
        root = rooted(LEAVES)
        for wake, done in [
            (lambda: root.set_cell(1, "m", 1), 0), (lambda: root.set_cell(1, "m", 1, "transition"), 4),
            (lambda: root.set_cell(1, "m", 1, "idle"), 4), (lambda: root.set_cell(1, "x", 1), 4),
            (lambda: root.set_store("s", 0), 4), (lambda: root.answer("k", 1), 0), (lambda: root.fail("l", "x"), 0),
            (lambda: root.set_values({"a": 1}, "idle"), 0), (lambda: root.set_values({"a": 1}, "idle"), 4),
            (lambda: root.set_values({"a": 1}), 0), (lambda: root.advance(3), 4), (lambda: root.take_log(), 4),
            (lambda: root.click(99), 4), (lambda: root.event(2, "x", {}), 4),
        ]:
            root.run_handler(1, "more", [1])
            root.work(4)
            self.assertEqual(root.schedule.done, 4)
            wake()
            self.assertEqual(root.schedule.done, done)
            root.flush()

    def test_each_way_to_divide_them(self):
        for seed in range(60):
            chance = random.Random(seed)
            one, many = rooted(LEAVES, settled=False), rooted(LEAVES, settled=False)
            watches = [Watch(self, one), Watch(self, many)]
            for _ in range(8):
                lane = chance.choice(["sync", "usual", "transition", "idle"])
                value = chance.randint(0, 9)
                cell = chance.choice("nm")
                for root in (one, many):
                    root.set_cell(1, cell, value, lane)
                count = chance.randint(0, 25)
                told = one.work(count)
                commits, left, settled = 0, count, None
                while left or settled is None:
                    part = chance.randint(0, left)
                    settled, found = many.work(part)
                    commits += found
                    left -= part
                    if found:
                        watches[1].look()
                self.assertEqual(told, (settled, commits))
                self.assertEqual(asked(one, False), asked(many, False))


class Settling(unittest.TestCase):
    def test_twenty_whole_passes(self):
        root = rooted(COUNTING, {"most": 100}, settled=False)
        self.assertEqual(root.work(1), (False, 21))
        self.assertEqual((root.html(), root.store_values(), root.pending), ("20", {"s": 21}, [(0, 0)]))
        self.assertEqual(root.work(5), (False, 20))
        self.assertEqual(root.work(0), (False, 20))
        self.assertEqual(root.html(), "60")

    def test_twenty_are_enough(self):
        for most, told in [(19, (True, 20)), (20, (True, 21)), (21, (False, 21)), (22, (False, 21))]:
            root = rooted(COUNTING, {"most": most}, settled=False)
            self.assertEqual(root.work(1), told, most)
            self.assertEqual(root.html(), str(min(most, 20)))

    def test_the_work_ends_if_it_cannot_be_settled(self):
        root = rooted(component("state n = 0; effect [n] { s = s + 1; } effect [s] { if s > 0 { s = s + 1; } }", "{n}",
                                stores="store s = 0;"), settled=False)
        self.assertEqual(root.work(50), (False, 21))
        root.set_cell(1, "n", 5)
        # No portion of the usual pass is done.
        self.assertEqual(root.work(50), (False, 20))
        self.assertEqual(root.html(), "0")

    def test_flush(self):
        root = rooted(LEAVES, settled=False)
        self.assertEqual(root.flush(), (True, 1))
        for lane in ("idle", "usual", "transition"):
            root.set_cell(1, "n", 1, lane)
        self.assertEqual(root.flush(), (True, 3))
        self.assertEqual(root.flush(), (True, 0))

    def test_flush_makes_twenty_passes(self):
        for source, most, told, pending in [
            (GOING, 18, (True, 19), []), (GOING, 19, (True, 20), []), (GOING, 20, (False, 20), [(1, 0)]),
            (GOING, 100, (False, 20), [(1, 0)]),
            (COUNTING, 19, (True, 20), []), (COUNTING, 20, (False, 20), [(0, 0)]),
        ]:
            root = rooted(source, {"most": most}, settled=False)
            self.assertEqual((root.flush(), root.pending), (told, pending), most)

    def test_flush_gives_what_is_pending_its_own_passes(self):
        root = rooted(LEAVES)
        root.set_cell(1, "n", 3, "idle")
        root.set_cell(1, "n", 4, "usual")
        root.work(3)
        self.assertEqual(root.flush(), (True, 2))
        self.assertEqual((root.html(), root.pending), ("0" + "45678" + "91011", []))

    def test_passes_that_hold_end(self):
        root = rooted(component('resource r = "k";', "{r}"), settled=False)
        self.assertEqual(root.flush(), (True, 0))
        self.assertEqual(root.work(3), (True, 0))
        root.set_store("none", 1)
        root.set_values({}, "sync")
        self.assertEqual(root.work(3), (True, 0))
        self.assertEqual(root.is_held, True)
