"""Comparing a written tree that was read with the one that is now ([68])."""

import copy
import random
import unittest

from tests.trees import TreeMaker
from viewloom.errors import MissingAnswer, ViewError
from viewloom.server.reading import read_tree
from viewloom.server.taking import Comparison, compare_trees


def compared(read, now):
    """Compares the trees of two texts; returns the differences, the late awaits and the partners."""
    found = compare_trees(read_tree(read), read_tree(now))
    return (found.differences, found.late, found.partners)


def differences(read, now):
    return compared(read, now)[0]


class Comparing(unittest.TestCase):
    def test_fields(self):
        found = Comparison()
        self.assertEqual((found.differences, found.late, found.partners), ([], [], []))
        self.assertIsInstance(compare_trees([], []), Comparison)

    def test_the_same(self):
        for text in ("", "a", "<!--e-->", "<p>x<b></b></p>y", '<p a="1" b="2"></p>', "<!--[-->a<!--]-->", "a<!--t-->b",
                     "<!--[1-->a<!--]-->", "<!--[-->a<!--[5--><p></p><!--]-->b<!--]-->c"):
            self.assertEqual(compared(text, text)[:2], ([], []), text)

    def test_partners(self):
        text = "a<p>b<!--[-->c<q>d</q><!--]-->e</p><!--[1-->f<!--]-->"
        paths = [(0,), (1,), (1, 0), (1, 1), (1, 2), (1, 2, 0), (1, 3), (2,)]
        self.assertEqual(compared(text, text), ([], [], [(path, path) for path in paths]))
        self.assertEqual(compared("a<p>b</p>", "x<p>y</p>")[2], [((0,), (0,)), ((1,), (1,)), ((1, 0), (1, 0))])
        self.assertEqual(compared("a<p>b</p>", "<p>b</p><p>b</p>")[2], [((1,), (1,)), ((1, 0), (1, 0))])

    def test_each_kind(self):
        self.assertEqual(differences("a", "b"), [((0,), "text")])
        self.assertEqual(differences("<!--e-->", "b"), [((0,), "text")])
        self.assertEqual(differences('<p a="1"></p>', '<p a="2"></p>'), [((0,), "attributes")])
        self.assertEqual(differences('<p a="1"></p>', "<p></p>"), [((0,), "attributes")])
        self.assertEqual(differences("<p></p>", '<p a=""></p>'), [((0,), "attributes")])
        self.assertEqual(differences('<p a="1"></p>', '<p b="1"></p>'), [((0,), "attributes")])
        self.assertEqual(differences('<p a="1" b="2"></p>', '<p b="2" a="1"></p>'), [])
        self.assertEqual(differences("<p>a</p>", "<q>b</q>"), [((0,), "node")])
        self.assertEqual(differences("a", "<p></p>"), [((0,), "node")])
        self.assertEqual(differences("<p>a</p>", "a"), [((0,), "node")])
        self.assertEqual(differences("", "a<p>b</p>"), [((0,), "missing"), ((1,), "missing")])
        self.assertEqual(differences("a<p>b</p>", ""), [((0,), "extra"), ((1,), "extra")])

    def test_order(self):
        self.assertEqual(
            differences('a<p x="1">b<q></q></p>c<r></r>', 'A<p x="2">B<q>new</q></p><s></s><t></t>z'),
            [((0,), "text"), ((1,), "attributes"), ((1, 0), "text"), ((1, 1, 0), "missing"), ((2,), "node"),
             ((3,), "node"), ((4,), "missing")])
        self.assertEqual(
            differences("<p>a<b></b>c</p>d<p>e</p>", "<p>a</p><p><i></i></p>"),
            [((0, 1), "extra"), ((0, 2), "extra"), ((1,), "node"), ((2,), "extra")])

    def test_awaits_that_are_compared(self):
        for number in ("", "3"):
            read, now = f"x<!--[{number}-->a<p></p><!--]-->b", f"x<!--[{number and 9}-->A<p></p><!--]-->B"
            self.assertEqual(compared(read, now), ([((1,), "text"), ((3,), "text")], [],
                                                   [((index,), (index,)) for index in range(4)]))
        # What is behind an await is not compared with what stands in it.
        self.assertEqual(compared("<!--[-->a<!--]-->b", "<!--[--><!--]-->b"),
                         ([((0,), "extra")], [], [((1,), (0,))]))
        self.assertEqual(compared("<!--[--><!--]-->b<p></p>", "<!--[-->x<!--t-->a<!--]-->b<p></p>"),
                         ([((0,), "missing"), ((1,), "missing")], [], [((0,), (2,)), ((1,), (3,))]))
        self.assertEqual(compared("<!--[1-->a<!--]--><!--[-->b<!--]-->c", "<!--[5--><!--]--><!--[-->b<i></i><!--]-->C"),
                         ([((0,), "extra"), ((1,), "missing"), ((2,), "text")], [], [((1,), (0,)), ((2,), (2,))]))

    def test_awaits_within_each_other(self):
        read = "<!--[--><!--[2-->a<!--]-->b<!--]-->c"
        self.assertEqual(compared(read, "<!--[--><!--[1-->a<i></i><!--]-->b<!--]-->c"),
                         ([((1,), "missing")], [], [((0,), (0,)), ((1,), (2,)), ((2,), (3,))]))
        self.assertEqual(compared(read, "<!--[--><!--[-->a<i></i><!--]-->b<!--]-->c"),
                         ([], [2], [((1,), (2,)), ((2,), (3,))]))
        self.assertEqual(differences("<p><!--[-->a<!--]--></p>", "<p><!--[-->b<!--]--></p>"), [((0, 0), "text")])

    def test_late_awaits(self):
        read = "x<!--[7-->wait<p></p><!--[2-->y<!--]--><!--]-->b<i>c</i>"
        now = "x<!--[-->A<!--[4-->B<!--]--><q></q>C<!--[-->D<!--]-->E<!--]-->b<i>C</i>"
        self.assertEqual(compared(read, now),
                         ([((8, 0), "text")], [7], [((0,), (0,)), ((4,), (7,)), ((5,), (8,)), ((5, 0), (8, 0))]))
        self.assertEqual(compared("<!--[1--><!--]-->", "<!--[--><!--]-->"), ([], [1], []))
        self.assertEqual(compared("<!--[3--><!--]--><!--[1-->a<!--]--><!--[2--><!--]-->",
                                  "<!--[-->a<!--]--><!--[--><!--]--><!--[8--><!--]-->"), ([], [3, 1], []))
        self.assertEqual(compared("<p><!--[5-->w<!--]--></p><!--[2-->w<!--]-->",
                                  "<p><!--[--><b></b>c<!--]-->d</p><!--[2-->W<!--]-->"),
                         ([((0, 2), "missing"), ((1,), "text")], [5], [((0,), (0,)), ((1,), (1,))]))

    def test_missing_answers(self):
        for read, now in [("<!--[--><!--]-->", "<!--[1--><!--]-->"), ("a<!--[-->b<!--]-->", "x<!--[1-->c<!--]-->"),
                          ("<p><!--[--><!--]--></p>", "<p><!--[1--><!--]--></p>"),
                          ("<!--[1--><!--[--><!--]--><!--]-->", "<!--[1--><!--[2--><!--]--><!--]-->"),
                          ("<!--[9-->a<!--]--><!--[--><!--]-->", "<!--[-->b<!--]--><!--[1--><!--]-->")]:
            with self.assertRaises(MissingAnswer, msg=(read, now)) as caught:
                compared(read, now)
            self.assertIsInstance(caught.exception, ViewError)
        # It is not compared.
        for read, now in [("<!--[1--><!--[--><!--]--><!--]-->", "<!--[--><!--[2--><!--]--><!--]-->"),
                          ("a<p><!--[--><!--]--></p>", "a<q><!--[1--><!--]--></q>"),
                          ("<!--[-->a<!--]-->", "b<!--[1-->a<!--]-->")]:
            compared(read, now)

    def test_an_await_where_the_other_list_has_none(self):
        self.assertEqual(compared("a<!--[-->b<!--]-->c", "a<p></p>c"), ([((1,), "node")], [], [((0,), (0,)), ((2,), (2,))]))
        self.assertEqual(compared("<!--[-->a<!--]-->", "a"), ([], [], [((0,), (0,))]))
        self.assertEqual(compared("a", "<!--[4-->a<!--t-->b<!--]-->"), ([((1,), "missing")], [], [((0,), (0,))]))
        self.assertEqual(compared("<!--[-->a<!--]-->", ""), ([((0,), "extra")], [], []))
        self.assertEqual(compared("", "<!--[-->a<!--]-->"), ([((0,), "missing")], [], []))
        self.assertEqual(compared("<!--[--><!--]-->", ""), ([], [], []))
        # No await behind this place counts, whether it waits or not.
        self.assertEqual(compared("<!--[-->a<!--]--><!--[-->b<!--]-->c", "a<!--[1-->b<!--]--><!--[2-->c<!--]-->"),
                         ([], [], [((index,), (index,)) for index in range(3)]))
        self.assertEqual(compared("a<!--[9-->b<!--]-->", "<!--[-->a<!--]-->b")[:2], ([], []))
        # But those ahead of it were compared already.
        self.assertEqual(compared("<!--[9-->x<!--]--><!--[-->b<!--]-->c", "<!--[--><p></p><i></i><!--]-->b<!--[-->c<!--]-->"),
                         ([], [9], [((1,), (2,)), ((2,), (3,))]))

    def test_awaits_around_such_a_place(self):
        # Neither the inner awaits nor the one around them count, so that what stands behind it is compared with d.
        self.assertEqual(compared("<!--[-->a<!--[-->b<!--]--><!--]-->c", "<!--[-->a<p></p>d<!--]-->e"),
                         ([((1,), "node"), ((2,), "text"), ((3,), "missing")], [], [((0,), (0,)), ((2,), (2,))]))
        self.assertEqual(compared("<!--[-->a<!--]-->c", "<!--[-->a<!--[1-->b<!--]--><!--]-->c"),
                         ([((1,), "text"), ((2,), "missing")], [], [((0,), (0,)), ((1,), (1,))]))
        self.assertEqual(compared("<!--[-->a<!--]-->d", "<!--[-->a<b></b><!--[-->c<!--]--><!--]-->d"),
                         ([((1,), "missing"), ((2,), "text"), ((3,), "missing")], [], [((0,), (0,)), ((1,), (2,))]))
        # An await that showed its kids and waits now has no meaning behind such a place.
        self.assertEqual(differences("<!--[--><!--[-->a<!--]--><!--]--><!--[-->b<!--]-->",
                                     "<!--[-->a<!--]--><!--[1-->b<!--]-->"), [])

    def test_other_lists_are_not_touched(self):
        # In the list of kids an await stands alone; the awaits of the list around it are compared as ever.
        self.assertEqual(compared("<p><!--[-->a<!--]--></p><!--[1-->x<!--]-->b", "<p>a</p><!--[-->y<i></i><!--]-->b"),
                         ([], [1], [((0,), (0,)), ((0, 0), (0, 0)), ((2,), (3,))]))
        with self.assertRaises(MissingAnswer):
            compared("<!--[-->a<!--]--><p><!--[--><!--]--></p>", "a<p><!--[1--><!--]--></p>")
        self.assertEqual(compared("<!--[--><p>x<!--[-->a<!--]--></p><!--]-->b", "<!--[--><p>x<i></i></p><!--]-->b<i></i>"),
                         ([((0, 1), "node"), ((2,), "missing")], [],
                          [((0,), (0,)), ((0, 0), (0, 0)), ((1,), (1,))]))

    def test_what_is_told_may_be_changed(self):
        read, now = read_tree("a<p>x</p>"), read_tree("b<q></q>")
        kept = copy.deepcopy((read, now))
        found = compare_trees(read, now)
        found.differences.clear()
        found.partners.append(1)
        found.late.append(2)
        self.assertEqual((read, now), kept)
        self.assertEqual(compare_trees(read, now).differences, [((0,), "text"), ((1,), "node")])
        self.assertEqual(compare_trees(read, now).late, [])

    def test_by_chance(self):
        missing = 0
        for seed in range(1500):
            maker = TreeMaker(seed)
            read = maker.tree(3)
            now = changed(read, random.Random(seed))
            kept = copy.deepcopy((read, now))
            try:
                wanted = slowly(read, now)
            except MissingAnswer:
                missing += 1
                with self.assertRaises(MissingAnswer):
                    compare_trees(read, now)
                continue
            found = compare_trees(read, now)
            self.assertEqual((found.differences, found.late, found.partners), wanted, (read, now))
            self.assertEqual((read, now), kept)
        self.assertGreater(missing, 50)
        self.assertLess(missing, 1200)


def changed(nodes, chance):
    """Returns nodes that are changed here and there."""
    found = []
    for node in nodes:
        if chance.random() < 0.1:
            continue
        if node[0] == "element":
            node = (*node[:3], changed(node[3], chance))
        if node[0] == "await":
            number = chance.choice([node[1], node[1], node[1], None, chance.randint(1, 10 ** 9)])
            node = ("await", number, changed(node[2], chance))
            if chance.random() < 0.15:
                found.extend(node[2])
                continue
        if node[0] == "text" and chance.random() < 0.1:
            node = ("text", "other")
        found.append(node)
        if chance.random() < 0.1:
            found.append(chance.choice([("text", "new"), ("element", "p", [], []), ("await", None, [("text", "in")])]))
    return found


def slowly(read, now):
    """Compares in another way: by recursion over the awaits, which is left when no await counts any more."""
    told, late, partners = [], [], []

    class Flat(Exception):
        pass

    def flat(nodes):
        return [part for node in nodes for part in (flat(node[2]) if node[0] == "await" else [node])]

    def lists(one, other, one_path, other_path):
        counts = [0, 0]
        # What is left of both lists, from the inside to the outside.
        left = [([], [])]

        def step(a, b):
            place_a, place_b = (*one_path, counts[0]), (*other_path, counts[1])
            if a is not None:
                counts[0] += 1
            if b is not None:
                counts[1] += 1
            if a is None:
                told.append((place_b, "missing"))
            elif b is None:
                told.append((place_a, "extra"))
            elif a[0] == b[0] == "text":
                partners.append((place_a, place_b))
                if a[1] != b[1]:
                    told.append((place_b, "text"))
            elif a[0] == b[0] and a[1] == b[1]:
                partners.append((place_a, place_b))
                if sorted(a[2]) != sorted(b[2]):
                    told.append((place_b, "attributes"))
                lists(a[3], b[3], place_a, place_b)
            else:
                told.append((place_b, "node"))

        def segment(xs, ys):
            xs, ys = list(xs), list(ys)
            left.append((xs, ys))
            while xs or ys:
                x, y = (xs[0] if xs else None), (ys[0] if ys else None)
                both = [z is not None and z[0] == "await" for z in (x, y)]
                if all(both):
                    del xs[0], ys[0]
                    if x[1] is None and y[1] is not None:
                        raise MissingAnswer("")
                    if x[1] is not None and y[1] is None:
                        late.append(x[1])
                        counts[0] += len(flat(x[2]))
                        counts[1] += len(flat(y[2]))
                    else:
                        segment(x[2], y[2])
                elif any(both):
                    raise Flat()
                else:
                    del xs[:1], ys[:1]
                    step(x, y)
            left.pop()

        try:
            segment(one, other)
        except Flat:
            xs = [node for part, _ in reversed(left) for node in flat(part)]
            ys = [node for _, part in reversed(left) for node in flat(part)]
            for index in range(max(len(xs), len(ys))):
                step(xs[index] if index < len(xs) else None, ys[index] if index < len(ys) else None)

    lists(read, now, (), ())
    return (told, late, partners)
