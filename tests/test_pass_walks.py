"""Passes one after the other, by chance: what is left out, and what the documents and patches of the trees are."""

import random
import unittest

from tests.helpers import expression
from tests.passes import Show, told
from viewloom.documents.nodes import is_document
from viewloom.documents.operations import apply_all
from viewloom.documents.patches import is_careful, patch
from viewloom.passes.instances import find, image, parent_of, walk

SOURCE = """
store s = 1;
store list = ["a", "b"];
component Main(p) {
  state n = 2;
  effect [n, s] {}
  view {
    <h1 a={n} b={n > 2}>{p}</h1>
    each x, i in list by x { <Item x={x} first={i == 0}>{n} <Leaf k={x}/></Item> }
    provide theme = {t: n} { <Outer n={n}>slot <Leaf k={p}/></Outer> }
    await { <Data k={p}/> <Leaf k="await"/> if n > 3 { <Data k="more"/> } } else { "wait" <Leaf k="w"/> }
    try { <Risky n={n}/> <Leaf k="try"/> } catch f { <b>{f.message}</b> <Leaf k="catch"/> }
  }
}
component Item(x, first) { context theme; state own = 0; view { <li c={own}>{x} if first { "!" } slot</li> } }
component Outer(n) { state open = true; view { if open { <p>slot</p> } else { <q>{n} slot</q> } } }
component Leaf(k) { context theme; state m = 0; effect [k] {} view { {theme == null ? "-" : theme.t} {m} {k} } }
component Data(k) { resource r = "key" + k; let d = r; view { {d} try { <Risky n={d}/> } catch g { {g.message} } } }
component Risky(n) { state m = 1; let q = 12 / (n * m); view { {q} <Leaf k={q}/> } }
"""
UPDATES = {"n": ["n + 1", "0", "n - 1", "2"], "own": ["own + 1"], "open": ["!open"], "m": ["m + 1", "0", "1", "m / 0"],
           "tries": ["[tries[0] + 1, null]", '[tries[0], "told"]']}


class Walk(Show):
    """A program with what changes by chance between its passes."""

    def __init__(self, seed):
        super().__init__(SOURCE, {"p": "x"})
        self.chance = random.Random(seed)

    def cells(self):
        found = []
        for instance in walk([self.tree] if self.tree else []):
            found.extend(instance.cells)
            if instance.tries is not None:
                found.append(instance.tries)
        return found

    def change(self):
        chance = self.chance
        for _ in range(chance.randint(0, 3)):
            what = chance.choice(["cell", "cell", "cell", "store", "list", "value", "answer", "answer"])
            if what == "cell" and self.cells():
                cell = chance.choice(self.cells())
                cell.send(chance.randrange(4), expression(chance.choice(UPDATES[cell.name])), {})
            elif what == "store":
                self.stores["s"] += 1
            elif what == "list":
                self.stores["list"] = chance.sample("abcd", chance.randint(0, 4))
            elif what == "value":
                self.values = {"p": chance.choice("xyz")}
            elif what == "answer":
                answer = chance.choice([("value", 0), ("value", 3), ("error", "bad")])
                self.answers.append(("key" + chance.choice(["x", "y", "z", "more"]), answer))


class Walks(unittest.TestCase):
    def test_walks(self):
        words = {}
        left_out = 0
        for seed in range(80):
            show = Walk(seed)
            document = ()
            for _ in range(12):
                show.change()
                lanes = show.chance.sample(range(4), show.chance.randint(0, 4))
                before = [show.tree] if show.tree else []
                kept = told(before)
                anew = show.make(lanes, True), show.made
                outcome = show.make(lanes)
                self.assertEqual(told(before), kept)
                self.compare(outcome, show.made, *anew)
                left_out += len(show.rendered) < len(anew[1].rendered)
                words[outcome[0]] = words.get(outcome[0], 0) + 1
                if outcome[0] == "tree":
                    self.look_at(outcome[1], show)
                    document = self.patched(document, outcome[1])
                    show.tree, show.next_id = outcome[1], show.made.next_id
                else:
                    self.assertEqual(show.made.next_id, show.next_id)
        self.assertLessEqual({"tree", "fails", "holds"}, set(words))
        self.assertGreater(left_out, 150)

    def compare(self, outcome, made, other, other_made):
        """A pass in which no component is left out makes the same tree."""
        self.assertEqual(outcome[0], other[0])
        self.assertEqual((made.next_id, made.asked), (other_made.next_id, other_made.asked))
        if outcome[0] == "tree":
            self.assertEqual(told([outcome[1]]), told([other[1]]))
        else:
            self.assertEqual(outcome[1], other[1])

    def look_at(self, tree, show):
        numbers = [instance.number for instance in walk([tree])]
        self.assertEqual(len(set(numbers)), len(numbers))
        self.assertLess(max(numbers), show.made.next_id)
        before = [instance.number for instance in walk([show.tree])] if show.tree else []
        for instance in walk([tree]):
            self.assertIs(find([tree], instance.number), instance)
            self.assertTrue(instance.number in before or instance.number >= show.next_id)
            for member in instance.all_kids:
                self.assertIs(parent_of([tree], member.number), instance)
            self.assertTrue(instance.waits or not instance.fallback)

    def patched(self, document, tree):
        behind = tuple(image([tree]))
        self.assertTrue(is_document(behind))
        operations = patch(document, behind)
        self.assertEqual(apply_all(document, operations), behind)
        self.assertTrue(is_careful(document, behind, operations))
        return behind
