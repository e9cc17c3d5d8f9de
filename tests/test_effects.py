"""The order of effects, and plans ([54], [55])."""

import copy
import types
import unittest

from tests.helpers import shares
from tests.passes import Show, told
from tests.test_instances import component, element, provide, still, text, trying, waiting
from viewloom.commits.effects import effect_order, plan


def shown(number, wanted, runs, *kids):
    """Returns a component with effects: the values on which each depends, and the run of each."""
    instance = component(number, *kids)
    instance.wanted = wanted
    instance.runs = runs
    return instance


def run(number, *values):
    return (number, list(values), {"n": [number]})


class Order(unittest.TestCase):
    def order(self, *instances):
        return [instance.number for instance in effect_order(list(instances))]

    def test_order(self):
        self.assertIsInstance(effect_order([]), types.GeneratorType)
        self.assertEqual(self.order(), [])
        self.assertEqual(self.order(text(1), element(2), provide(3), still(4), trying(5)), [])
        self.assertEqual(self.order(component(1)), [1])
        self.assertEqual(self.order(component(1, component(2), component(3))), [2, 3, 1])
        self.assertEqual(self.order(component(1, component(2, component(3)), component(4)), component(5)),
                         [3, 2, 4, 1, 5])

    def test_every_kind(self):
        tree = component(1, element(2, component(3, text(4)), provide(5, component(6))), component(7, trying(8, component(9))),
                         still(10, component(11)), text(12))
        self.assertEqual(self.order(tree), [3, 6, 9, 7, 11, 1])

    def test_awaits_that_wait(self):
        tree = component(1, waiting(2, [component(3, component(4)), waiting(5, [component(6)], [component(7)])],
                                    [component(8), element(9, component(10))]), component(11))
        self.assertEqual(self.order(tree), [4, 3, 6, 7, 8, 10, 11, 1])

    def test_they_are_the_instances_themselves(self):
        tree = component(1, component(2))
        self.assertEqual(list(effect_order([tree])), [tree.kids[0], tree])


class Plans(unittest.TestCase):
    def test_none_and_a_tree(self):
        tree = [shown(1, [[], [1]], [None, None], element(2, shown(3, [[5]], [None])), component(4))]
        self.assertEqual(plan([], tree), [("run", 3, 0), ("run", 1, 0), ("run", 1, 1)])
        self.assertEqual(plan([], []), [])

    def test_a_tree_and_none(self):
        tree = [shown(1, [[], [1], []], [run(4), None, run(2, 7)], shown(3, [[5]], [run(9, 5)]), shown(4, [[1]], [None]))]
        self.assertEqual(plan(tree, []), [
            ("clean", 3, 0, (9, [5], {"n": [9]})), ("clean", 1, 0, (4, [], {"n": [4]})),
            ("clean", 1, 2, (2, [7], {"n": [2]})),
        ])

    def test_unchanged(self):
        tree = [shown(1, [[], [1, [2]], [{"a": 1, "b": 2}]], [run(1), run(2, 1, [2]), run(3, {"b": 2, "a": 1})])]
        self.assertEqual(plan(tree, tree), [])
        self.assertEqual(plan([], tree), [])

    def test_changed(self):
        for wanted, had in [([1], [2]), ([1], [True]), ([], [1]), ([1], []), ([[1]], [[1, 2]]), ([None], [False]),
                            ([1, 2], [2, 1]), ([("act", 1, "h", [])], [("act", 2, "h", [])]), (["1"], [1])]:
            tree = [shown(1, [wanted], [run(5, *had)])]
            for before in ([], tree):
                self.assertEqual(plan(before, tree), [("clean", 1, 0, (5, had, {"n": [5]})), ("run", 1, 0)])

    def test_gone_new_changed_and_unchanged(self):
        before = [shown(1, [[1], [2]], [run(10, 1), run(11, 2)],
                        shown(2, [[]], [run(12)], shown(3, [[]], [run(13)])),
                        element(4, shown(5, [[0], [0], [0]], [run(14, 0), None, run(15, 0)])),
                        shown(6, [[6], [6]], [run(16, 6), run(17, 6)]))]
        behind = [shown(1, [[1], [3]], [run(10, 1), run(11, 2)],
                        shown(7, [[], []], [None, None]),
                        shown(6, [[7], [6]], [run(16, 6), run(17, 6)], shown(8, [[]], [None])))]
        self.assertEqual(plan(before, behind), [
            # What is gone, in the order of effects of the tree before.
            ("clean", 3, 0, run(13)), ("clean", 2, 0, run(12)), ("clean", 5, 0, run(14, 0)), ("clean", 5, 2, run(15, 0)),
            # All cleans ahead of all runs.
            ("clean", 6, 0, run(16, 6)), ("clean", 1, 1, run(11, 2)),
            ("run", 7, 0), ("run", 7, 1), ("run", 8, 0), ("run", 6, 0), ("run", 1, 1),
        ])

    def test_effects_of_one_component(self):
        tree = [shown(1, [[1], [2], [3], [4], []], [run(1, 1), run(2, 0), None, run(4, 0), run(5)])]
        self.assertEqual(plan(tree, tree), [("clean", 1, 1, run(2, 0)), ("clean", 1, 3, run(4, 0)),
                                            ("run", 1, 1), ("run", 1, 2), ("run", 1, 3)])

    def test_what_is_moved_is_not_gone(self):
        inner = shown(2, [[]], [run(1)])
        self.assertEqual(plan([component(1, inner)], [component(1, element(3, inner))]), [])
        self.assertEqual(plan([component(1, inner)], [component(1, waiting(3, [inner], []))]), [])

    def test_hidden_instances_are_in_the_tree(self):
        hidden = shown(3, [[1]], [run(1, 1)])
        behind = [component(1, waiting(2, [hidden, shown(5, [[2]], [run(7, 1)])], [shown(4, [[]], [None])]))]
        self.assertEqual(plan([component(1, still(2, hidden))], behind),
                         [("clean", 5, 0, run(7, 1)), ("run", 5, 0), ("run", 4, 0)])
        self.assertEqual(plan(behind, [component(1)]), [("clean", 3, 0, run(1, 1)), ("clean", 5, 0, run(7, 1))])

    def test_with_passes(self):
        show = Show("""
component Main(n, more) { effect [] { log(n); } effect [n] {} view { if more { <Sub n={n}/> } else { <p/> } } }
component Sub(n) { effect [n > 1] {} view {} }
""", {"n": 1, "more": True})
        show.go()
        self.assertEqual(plan([], [show.tree]), [("run", 2, 0), ("run", 1, 0), ("run", 1, 1)])
        for index, instance in enumerate([show.tree, show.named("Sub")]):
            instance.runs = [(index, values, {}) for values in instance.wanted]
        before = show.tree
        show.values = {"n": 2, "more": True}
        show.go()
        self.assertEqual(plan([before], [show.tree]), [
            ("clean", 2, 0, (1, [False], {})), ("clean", 1, 1, (0, [1], {})), ("run", 2, 0), ("run", 1, 1)])
        before = show.tree
        show.values = {"n": 2, "more": False}
        show.go()
        self.assertEqual(plan([before], [show.tree])[:2],
                         [("clean", 2, 0, (1, [False], {})), ("clean", 1, 1, (0, [1], {}))])

    def test_nothing_is_changed_or_shared(self):
        before = [shown(1, [[[1]]], [run(1, [1])], shown(2, [[]], [run(2, [3])]))]
        behind = [shown(1, [[[2]]], [run(1, [1])])]
        kept = copy.deepcopy((told(before), told(behind)))
        steps = plan(before, behind)
        self.assertEqual(len(steps), 3)
        self.assertFalse(shares([before, behind], steps))
        steps[0][3][1][0].append(9)
        steps[0][3][2]["n"].append(9)
        steps.clear()
        self.assertEqual((told(before), told(behind)), kept)
        self.assertEqual(len(plan(before, behind)), 3)
