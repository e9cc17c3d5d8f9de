"""Scopes, and the names that expressions use ([13], [15] and the interface)."""

import copy
import unittest

from tests.helpers import expression
from viewloom.checks.names import free_names
from viewloom.checks.scopes import Scope


class Scopes(unittest.TestCase):
    def test_empty(self):
        scope = Scope()
        self.assertEqual(list(scope), [])
        self.assertEqual(len(scope), 0)
        self.assertFalse("a" in scope)

    def test_declare(self):
        scope = Scope()
        self.assertIs(scope.declare("b"), True)
        self.assertIs(scope.declare("a"), True)
        self.assertIs(scope.declare("b"), False)
        self.assertEqual([name for name in scope], ["b", "a"])
        self.assertEqual(len(scope), 2)
        self.assertTrue("a" in scope and "b" in scope)
        self.assertFalse("c" in scope)

    def test_event_is_not_declared(self):
        scope = Scope()
        self.assertIs(scope.declare("event"), False)
        self.assertFalse("event" in scope)
        self.assertEqual(len(scope), 0)
        self.assertIsNone(scope.allow("event"))
        self.assertTrue("event" in scope)
        self.assertIs(scope.declare("event"), False)
        self.assertEqual(list(scope), ["event"])

    def test_allow(self):
        scope = Scope()
        scope.declare("a")
        self.assertIsNone(scope.allow("b"))
        self.assertIsNone(scope.allow("a"))
        self.assertIsNone(scope.allow("b"))
        self.assertEqual(list(scope), ["a", "b"])
        self.assertIs(scope.declare("b"), False)
        self.assertEqual(len(scope), 2)

    def test_inner_scopes_are_their_own(self):
        scope = Scope()
        scope.declare("b")
        inner = scope.inner()
        self.assertIsInstance(inner, Scope)
        self.assertEqual(list(inner), ["b"])
        self.assertIs(inner.declare("b"), False)
        self.assertIs(inner.declare("a"), True)
        inner.allow("event")
        scope.declare("c")
        deeper = inner.inner()
        deeper.declare("d")
        self.assertEqual(list(scope), ["b", "c"])
        self.assertEqual(list(inner), ["b", "a", "event"])
        self.assertEqual(list(deeper), ["b", "a", "event", "d"])
        self.assertIs(scope.declare("a"), True)
        self.assertIs(scope.declare("d"), True)

    def test_lists_of_names_are_their_own(self):
        scope = Scope()
        scope.declare("a")
        list(scope).append("b")
        self.assertEqual(list(scope), ["a"])


NAMES = [
    ("null", []), ("true", []), ("1", []), ('"a"', []), ("a", ["a"]), ("event", ["event"]), ("[a, b, a]", ["a", "b"]),
    ("[]", []), ("{a: b, c: d}", ["b", "d"]), ("a.b", ["a"]), ("a[b]", ["a", "b"]), ("b[a]", ["b", "a"]),
    ("!a", ["a"]),
    ("-a", ["a"]), ("b + a", ["b", "a"]), ("a == a", ["a"]), ("c ? b : a", ["c", "b", "a"]), ("a ? a : b", ["a", "b"]),
    ("f(b, a)", ["b", "a"]), ("length(length)", ["length"]), ("do h(b, a)", ["b", "a"]), ("do h(h)", ["h"]),
    ("[a for a in b]", ["b"]), ("[c for a in b]", ["b", "c"]), ("[a for a in a]", ["a"]),
    ("[c for a in b if d]", ["b", "c", "d"]),
    ("[a + c for a in b if a + d + b]", ["b", "c", "d"]), ("[1 for a in [] if a]", []),
    ("a + [a for a in b]", ["a", "b"]),
    ("[a for a in b] + a", ["b", "a"]), ("[[a + b for b in a] for a in c]", ["c"]),
    ("[[a for a in b] for b in a]", ["a"]),
    ("[[a for b in c] for c in d]", ["d", "a"]), ("[[b for a in b] for b in b if a]", ["b", "a"]),
    ("[[a for a in d] + a for a in b if [c for c in a]]", ["b", "d"]), ("[a for a in [a for a in a]]", ["a"]),
    ("[[a, b, c, d] for a in [b for b in e]] + b", ["e", "b", "c", "d"]),
    ("[[x for x in y] + x for y in z]", ["z", "x"]),
    ("{x: [x for x in x], y: y}", ["x", "y"]), ("[c ? a : b for a in d if !b]", ["d", "c", "b"]),
    ("do h([event for a in [a]])", ["a", "event"]), ("f(g(x)[y].z, -w)", ["x", "y", "w"]),
]


class Names(unittest.TestCase):
    def test_free_names(self):
        for source, names in NAMES:
            value = expression(source)
            kept = copy.deepcopy(value)
            self.assertEqual(free_names(value), names, source)
            self.assertEqual(value, kept)
            free_names(value).append("x")
            self.assertEqual(free_names(value), names)
