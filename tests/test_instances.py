"""Instances and what is shown of them ([46], [50])."""

import copy
import types
import unittest

from tests.helpers import expression, nodes, shares
from tests.passes import told
from viewloom.passes.cells import Cell
from viewloom.passes.instances import Instance, copied, find, image, parent_of, walk


def text(number, content=""):
    instance = Instance("text", number, str(number))
    instance.text = content
    return instance


def element(number, *kids, name="p", attributes=(), acts=()):
    instance = Instance("element", number, str(number), name=name)
    instance.attributes = list(attributes)
    instance.acts = list(acts)
    instance.kids = list(kids)
    return instance


def component(number, *kids, name="A"):
    instance = Instance("component", number, str(number), name=name)
    instance.kids = list(kids)
    return instance


def provide(number, *kids):
    instance = Instance("provide", number, str(number), name="c")
    instance.provided = [number]
    instance.kids = list(kids)
    return instance


def waiting(number, kids, fallback):
    instance = Instance("await", number, str(number))
    instance.waits = True
    instance.kids = list(kids)
    instance.fallback = list(fallback)
    return instance


def still(number, *kids):
    instance = Instance("await", number, str(number))
    instance.kids = list(kids)
    return instance


def trying(number, *kids):
    instance = Instance("try", number, str(number))
    instance.tries = Cell("tries", [0, None])
    instance.kids = list(kids)
    return instance


def whole():
    """A tree with every kind of instance, fallbacks and members that are hidden."""
    inner = waiting(8, [element(9, text(10, "hidden")), waiting(11, [text(12, "h")], [text(13, "f")])],
                    [text(14, "shown"), still(15, text(16, "in"))])
    return [
        component(1, element(2, text(3, "a"), trying(4, text(5, "b")), attributes=[("k", "v"), ("l", "")]),
                  provide(6, component(7, inner)), waiting(17, [], [element(18)])),
        text(19, "last"),
    ]


def full():
    """A component with all that it has, and a try."""
    instance = component(1, trying(2, text(3)))
    instance.parameters = {"p": [1]}
    instance.slot = (("use", "0", "B", (("x", [2]),), ()), ("try", "1", (), "f", nodes("slot"), {"e": [3]}, 1, ()))
    cell = Cell("n", [4])
    cell.send(2, expression("n + d"), {"d": [5]})
    instance.cells = [cell]
    instance.env = {"p": [1], "n": [4], "r": {"x": [6]}}
    instance.described = (("provide", "0", "c", [7], ()), ("element", "1", "p", (), (("a", ("act", 1, "h", [[8]])),), ()))
    instance.wanted = [[[9], 1], []]
    instance.runs = [(3, [[9]], {"n": [10]}), None]
    instance.kids[0].message = "why"
    instance.kids[0].failed_at = 2
    instance.kids.append(provide(4))
    instance.kids.append(element(5, acts=[("click", ("act", 1, "h", [[11]]))]))
    instance.kids.append(waiting(6, [text(7)], [text(8)]))
    return [instance]


class Instances(unittest.TestCase):
    def test_a_new_instance(self):
        for form, name in [("text", None), ("element", "p"), ("component", "A"), ("provide", "c"), ("await", None),
                           ("try", None)]:
            instance = Instance(form, 7, "0t/1", name=name)
            self.assertEqual((instance.form, instance.number, instance.key, instance.name), (form, 7, "0t/1", name))
            self.assertEqual(instance.kids, [])
            for field in ["text", "provided", "tries", "message"]:
                self.assertIsNone(getattr(instance, field))
            for field in ["attributes", "acts", "parameters", "slot", "cells", "env", "described", "wanted", "runs",
                          "fallback"]:
                self.assertEqual(len(getattr(instance, field)), 0)
            self.assertIs(instance.waits, False)
            self.assertEqual(instance.failed_at, 0)
        self.assertIsNone(Instance("text", 1, "").name)

    def test_fields_are_its_own(self):
        first, second = Instance("text", 1, ""), Instance("text", 2, "")
        self.assertFalse(shares(first, second))

    def test_members(self):
        a, b, c = text(2), text(3), text(4)
        instance = waiting(1, [a, b], [c])
        self.assertEqual(instance.all_kids, [a, b, c])
        self.assertEqual(instance.shown_kids, [c])
        instance.all_kids.clear()
        instance.shown_kids.clear()
        self.assertEqual((instance.kids, instance.fallback), ([a, b], [c]))
        for other in (component(1, a, b), element(1, a, b), provide(1, a, b), trying(1, a, b), still(1, a, b)):
            self.assertEqual((other.all_kids, other.shown_kids), ([a, b], [a, b]))
            other.shown_kids.clear()
            other.all_kids.clear()
            self.assertEqual(other.kids, [a, b])
        self.assertEqual((waiting(1, [], []).shown_kids, text(1).all_kids), ([], []))

    def test_walk(self):
        self.assertIsInstance(walk([]), types.GeneratorType)
        self.assertEqual([instance.number for instance in walk(whole())], list(range(1, 20)))
        self.assertEqual(list(walk([])), [])
        tree = whole()
        self.assertIs(next(walk(tree)), tree[0])

    def test_find(self):
        tree = whole()
        for instance in walk(tree):
            self.assertIs(find(tree, instance.number), instance)
        for number in (0, 20, -1):
            self.assertIsNone(find(tree, number))
        self.assertIsNone(find([], 1))

    def test_parent_of(self):
        tree = whole()
        parents = {2: 1, 3: 2, 4: 2, 5: 4, 6: 1, 7: 6, 8: 7, 9: 8, 10: 9, 11: 8, 12: 11, 13: 11, 14: 8, 15: 8, 16: 15,
                   17: 1, 18: 17}
        for number, parent in parents.items():
            self.assertIs(parent_of(tree, number), find(tree, parent), number)
        for number in (0, 1, 19, 20):
            self.assertIsNone(parent_of(tree, number))

    def test_copied(self):
        for tree in (whole(), full(), []):
            kept = told(tree)
            other = copied(tree)
            self.assertEqual(told(other), kept)
            self.assertFalse(shares(tree, other))
            for one, two in zip(walk(tree), walk(other)):
                self.assertIsNot(one, two)
                self.assertTrue(all(mine == yours for mine, yours in zip(one.cells, two.cells)))
                self.assertTrue(one.tries == two.tries)
            for one in list(walk(other)):
                one.kids.clear()
                one.fallback.clear()
                one.env.clear()
                one.parameters.clear()
                one.attributes.append(("z", ""))
                one.acts.clear()
                one.wanted.append([1])
                one.runs.clear()
                one.slot = ()
                one.cells.clear()
                one.text = "changed"
                if one.tries is not None:
                    one.tries.base.append(1)
            self.assertEqual(told(tree), kept)

    def test_nothing_that_changes_is_shared_by_a_copy(self):
        tree = full()
        kept = told(tree)
        other = copied(tree)[0]
        other.parameters["p"].append(0)
        other.slot[0][3][0][1].append(0)
        other.slot[1][5]["e"].append(0)
        other.cells[0].base.append(0)
        other.cells[0].queue[0][3]["d"].append(0)
        other.env["r"]["x"].append(0)
        other.described[0][3].append(0)
        other.described[1][4][0][1][3][0].append(0)
        other.wanted[0][0].append(0)
        other.runs[0][1][0].append(0)
        other.runs[0][2]["n"].append(0)
        other.kids[1].provided.append(0)
        other.kids[2].acts[0][1][3][0].append(0)
        other.kids[3].fallback[0].text = "z"
        self.assertEqual(told(tree), kept)


class Images(unittest.TestCase):
    def test_images(self):
        for tree, nodes_there in [
            ([], []), ([text(1, "a")], [("text", 1, "a")]), ([element(1)], [("element", 1, "p", (), ())]),
            ([component(1)], []), ([component(1, text(2, "a"), text(3))], [("text", 2, "a"), ("text", 3, "")]),
            ([provide(1, text(2)), trying(3, text(4))], [("text", 2, ""), ("text", 4, "")]),
            ([still(1, text(2))], [("text", 2, "")]), ([waiting(1, [text(2)], [text(3)])], [("text", 3, "")]),
            ([waiting(1, [text(2)], [])], []), ([waiting(1, [], [text(2)])], [("text", 2, "")]),
            # Awaits within each other.
            ([waiting(1, [text(2)], [waiting(3, [text(4)], [text(5)]), still(6, text(7))])],
             [("text", 5, ""), ("text", 7, "")]),
            ([waiting(1, [still(2, text(3))], [])], []), ([still(1, waiting(2, [text(3)], [text(4)]))],
                                                          [("text", 4, "")]),
            (whole(), [
                ("element", 2, "p", (("k", "v"), ("l", "")), (("text", 3, "a"), ("text", 5, "b"))),
                ("text", 14, "shown"), ("text", 16, "in"), ("element", 18, "p", (), ()), ("text", 19, "last"),
            ]),
        ]:
            kept = told(tree)
            self.assertEqual(image(tree), nodes_there)
            self.assertEqual(told(tree), kept)

    def test_parts_of_an_image_are_tuples(self):
        tree = [element(1, component(2, element(3, text(4))), attributes=[("a", "b")])]
        found = image(tree)
        self.assertIsInstance(found, list)
        self.assertEqual(repr(found),
                         "[('element', 1, 'p', (('a', 'b'),), (('element', 3, 'p', (), (('text', 4, ''),)),))]")
        found.clear()
        self.assertEqual(len(image(tree)), 1)
        self.assertEqual(copy.deepcopy(image(tree)), image(tree))
