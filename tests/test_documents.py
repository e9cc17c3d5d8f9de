"""Documents and operations ([32] to [34])."""

import copy
import unittest

from tests.documents import DocumentMaker, numbers_in, tower
from viewloom.documents.nodes import find_node, ids_of, is_document, kids_of, walk
from viewloom.documents.operations import apply_all, apply_operation, fault_of
from viewloom.errors import InvalidOperation, ViewError

T1, T2, T3 = ("text", 1, "one"), ("text", 2, ""), ("text", 3, "three")
INNER = ("element", 5, "b", (("a", "1"), ("b", "")), (T3, ("text", 6, "six")))
OUTER = ("element", 4, "main", (), (T2, INNER, ("text", 7, "7")))
DOCUMENT = (T1, OUTER, ("element", 8, "p", (("x", "y"),), ()))


def element(number, *kids, tag="p", attributes=()):
    return ("element", number, tag, attributes, kids)


class Documents(unittest.TestCase):
    def test_documents(self):
        for document in [
            (), (T1,), DOCUMENT, (("text", 10 ** 9, ""), T1), (element(3, T1, element(2)),), (tower(40),),
            (tower(39, 1, (("text", 50, ""),)),), (T1, tower(40, 2)),
            (element(1, attributes=(("a", ""), ("a1", ""), ("b", ""), ("ba", ""))),),
            (element(1, attributes=(("A", ""), ("_", ""), ("a", ""))),),
        ]:
            self.assertIs(is_document(document), True)

    def test_no_documents(self):
        for document in [
            (T1, T1), (T1, ("text", 1, "other")), (T1, element(1)), (element(1, T1),), (element(2, T1, T1),),
            (element(2, element(3, T1)), T1), (element(2, element(3, T1)), element(4, element(5, T1))),
            (tower(20), element(99, tower(5, 16))), DOCUMENT + (T3,), (element(7, tower(20, 8, (element(7),))),),
            (("text", 0, ""),), (("text", -1, ""),), (element(0),), (element(-5, T1),), (element(2, element(0)),),
            (T1, tower(30, 2, (("text", 0, ""),))),
            (element(1, attributes=(("a", "1"), ("a", "1"))),), (element(1, attributes=(("b", ""), ("a", ""))),),
            (element(1, attributes=(("a", ""), ("c", ""), ("b", ""))),),
            (element(1, attributes=(("a", ""), ("b", ""), ("a", ""))),),
            (element(1, element(2, attributes=(("b", ""), ("a", "")))),),
            (element(1, attributes=(("a10", ""), ("a1", ""))),), (element(1, attributes=(("a", ""), ("A", ""))),),
            (tower(41),), (tower(40, 1, (("text", 50, ""),)),), (tower(45),), (T1, tower(41, 2)), (tower(300),),
        ]:
            self.assertIs(is_document(document), False, document)

    def test_walk(self):
        self.assertEqual(list(walk(())), [])
        self.assertEqual(list(walk(DOCUMENT)), [
            (1, T1), (1, OUTER), (2, T2), (2, INNER), (3, T3), (3, ("text", 6, "six")), (2, ("text", 7, "7")),
            (1, DOCUMENT[2]),
        ])
        self.assertEqual([level for level, _ in walk((tower(40),))], list(range(1, 41)))

    def test_ids_of(self):
        self.assertEqual(ids_of(()), [])
        self.assertEqual(ids_of(DOCUMENT), [1, 4, 2, 5, 3, 6, 7, 8])
        for seed in range(100):
            document = DocumentMaker(seed).document(range(1, 20))
            self.assertEqual(ids_of(document), numbers_in(document))
            self.assertEqual([node[1] for _, node in walk(document)], numbers_in(document))

    def test_find_node(self):
        for node in [T1, T2, T3, OUTER, INNER, DOCUMENT[2]]:
            self.assertEqual(find_node(DOCUMENT, node[1]), node)
        for number in [0, 9, -1, 100]:
            self.assertIsNone(find_node(DOCUMENT, number))
        self.assertIsNone(find_node((), 1))

    def test_kids_of(self):
        self.assertEqual(kids_of(DOCUMENT, 0), DOCUMENT)
        self.assertEqual(kids_of(DOCUMENT, 4), OUTER[4])
        self.assertEqual(kids_of(DOCUMENT, 5), INNER[4])
        self.assertEqual(kids_of(DOCUMENT, 8), ())
        for parent in [1, 3, 7, 9, -1]:
            self.assertIsNone(kids_of(DOCUMENT, parent))
        self.assertEqual(kids_of((), 0), ())
        self.assertIsNone(kids_of((), 1))


OPERATIONS = [
    # Removing: the first, one in the middle, the last, within kids.
    (("remove", 0, 1), (OUTER, DOCUMENT[2])),
    (("remove", 0, 4), (T1, DOCUMENT[2])),
    (("remove", 0, 8), (T1, OUTER)),
    (("remove", 4, 2), (T1, element(4, INNER, OUTER[4][2], tag="main"), DOCUMENT[2])),
    (("remove", 4, 7), (T1, element(4, T2, INNER, tag="main"), DOCUMENT[2])),
    (("remove", 5, 6), (T1, element(4, T2, (*INNER[:4], (T3,)), OUTER[4][2], tag="main"), DOCUMENT[2])),
    # Inserting: ahead of the first, between, behind all, within kids.
    (("insert", 0, ("text", 9, "n"), 1), (("text", 9, "n"), *DOCUMENT)),
    (("insert", 0, element(9, ("text", 10, "n")), 4), (T1, element(9, ("text", 10, "n")), *DOCUMENT[1:])),
    (("insert", 0, ("text", 9, "n"), None), (*DOCUMENT, ("text", 9, "n"))),
    (("insert", 8, ("text", 9, "n"), None), (T1, OUTER, (*DOCUMENT[2][:4], (("text", 9, "n"),)))),
    (("insert", 4, ("text", 9, "n"), 2), (T1, element(4, ("text", 9, "n"), *OUTER[4], tag="main"), DOCUMENT[2])),
    (("insert", 4, ("text", 9, "n"), 7),
     (T1, element(4, T2, INNER, ("text", 9, "n"), OUTER[4][2], tag="main"), DOCUMENT[2])),
    (("insert", 5, ("text", 9, "n"), 6),
     (T1, element(4, T2, (*INNER[:4], (T3, ("text", 9, "n"), INNER[4][1])), OUTER[4][2], tag="main"), DOCUMENT[2])),
    # Moving: to the beginning, between, to the end, to where it is.
    (("move", 0, 8, 1), (DOCUMENT[2], T1, OUTER)),
    (("move", 0, 8, 4), (T1, DOCUMENT[2], OUTER)),
    (("move", 0, 1, None), (OUTER, DOCUMENT[2], T1)),
    (("move", 0, 1, 8), (OUTER, T1, DOCUMENT[2])),
    (("move", 0, 1, 4), DOCUMENT),
    (("move", 0, 8, None), DOCUMENT),
    (("move", 4, 7, 2), (T1, element(4, OUTER[4][2], T2, INNER, tag="main"), DOCUMENT[2])),
    (("move", 4, 5, None), (T1, element(4, T2, OUTER[4][2], INNER, tag="main"), DOCUMENT[2])),
    (("move", 5, 6, 3), (T1, element(4, T2, (*INNER[:4], (INNER[4][1], T3)), OUTER[4][2], tag="main"), DOCUMENT[2])),
    # Texts and attributes.
    (("text", 1, "more"), (("text", 1, "more"), *DOCUMENT[1:])),
    (("text", 1, "one"), DOCUMENT),
    (("text", 3, ""), (T1, element(4, T2, (*INNER[:4], (("text", 3, ""), INNER[4][1])), OUTER[4][2], tag="main"),
                       DOCUMENT[2])),
    (("set", 8, "x", "z"), (T1, OUTER, element(8, attributes=(("x", "z"),)))),
    (("set", 8, "a", "z"), (T1, OUTER, element(8, attributes=(("a", "z"), ("x", "y"))))),
    (("set", 8, "xx", ""), (T1, OUTER, element(8, attributes=(("x", "y"), ("xx", ""))))),
    (("set", 4, "k", "v"), (T1, element(4, *OUTER[4], tag="main", attributes=(("k", "v"),)), DOCUMENT[2])),
    (("set", 5, "aa", "v"),
     (T1, element(4, T2, element(5, *INNER[4], tag="b", attributes=(("a", "1"), ("aa", "v"), ("b", ""))), OUTER[4][2],
                  tag="main"), DOCUMENT[2])),
    (("unset", 8, "x"), (T1, OUTER, element(8))),
    (("unset", 5, "b"),
     (T1, element(4, T2, element(5, *INNER[4], tag="b", attributes=(("a", "1"),)), OUTER[4][2], tag="main"),
      DOCUMENT[2])),
]
NEW = ("text", 9, "n")
FAULTS = [
    (("remove", 9, 1), "no such element"), (("remove", 1, 1), "no such element"), (("remove", -1, 1), "no such element"),
    (("remove", 0, 9), "no such kid"), (("remove", 0, 2), "no such kid"), (("remove", 0, 5), "no such kid"),
    (("remove", 4, 3), "no such kid"), (("remove", 4, 4), "no such kid"), (("remove", 4, 1), "no such kid"),
    (("remove", 8, 8), "no such kid"), (("remove", 5, 0), "no such kid"), (("remove", 9, 9), "no such element"),
    (("insert", 9, NEW, None), "no such element"), (("insert", 1, NEW, None), "no such element"),
    (("insert", 7, NEW, 1), "no such element"), (("insert", 9, T1, 77), "no such element"),
    (("insert", 0, T1, None), "id in use"), (("insert", 0, ("text", 6, ""), 1), "id in use"),
    (("insert", 8, element(9, element(10, T3)), None), "id in use"), (("insert", 4, element(4), 2), "id in use"),
    (("insert", 0, element(9, element(8)), 77), "id in use"), (("insert", 0, element(9, NEW[:1] + (7, "")), None),
                                                             "id in use"),
    (("insert", 0, NEW, 9), "no such kid"), (("insert", 0, NEW, 2), "no such kid"), (("insert", 4, NEW, 4), "no such kid"),
    (("insert", 8, NEW, 1), "no such kid"), (("insert", 0, NEW, 0), "no such kid"), (("insert", 5, NEW, 2), "no such kid"),
    (("move", 9, 1, None), "no such element"), (("move", 2, 1, 1), "no such element"), (("move", 7, 7, None),
                                                                                        "no such element"),
    (("move", 0, 9, None), "no such kid"), (("move", 0, 2, None), "no such kid"), (("move", 4, 3, 2), "no such kid"),
    (("move", 0, 1, 1), "no such kid"), (("move", 4, 5, 5), "no such kid"), (("move", 0, 1, 9), "no such kid"),
    (("move", 0, 1, 2), "no such kid"), (("move", 4, 2, 4), "no such kid"), (("move", 4, 2, 3), "no such kid"),
    (("move", 0, 1, 0), "no such kid"), (("move", 8, 8, None), "no such kid"), (("move", 0, 9, 9), "no such kid"),
    (("text", 9, ""), "no such text"), (("text", 4, ""), "no such text"), (("text", 8, "a"), "no such text"),
    (("text", 0, ""), "no such text"),
    (("set", 9, "a", ""), "no such element"), (("set", 1, "a", ""), "no such element"),
    (("set", 3, "a", ""), "no such element"), (("set", 0, "a", ""), "no such element"),
    (("unset", 9, "a"), "no such element"), (("unset", 1, "a"), "no such element"), (("unset", 0, "a"),
                                                                                    "no such element"),
    (("unset", 4, "a"), "no such attribute"), (("unset", 8, "y"), "no such attribute"),
    (("unset", 8, "X"), "no such attribute"), (("unset", 5, ""), "no such attribute"),
]


class Operations(unittest.TestCase):
    def test_operations(self):
        for operation, expected in OPERATIONS:
            kept = copy.deepcopy(DOCUMENT)
            self.assertIsNone(fault_of(DOCUMENT, operation), operation)
            self.assertEqual(apply_operation(DOCUMENT, operation), expected, operation)
            self.assertEqual(apply_all(DOCUMENT, [operation]), expected, operation)
            self.assertTrue(is_document(expected))
            self.assertEqual(DOCUMENT, kept)

    def test_faults(self):
        for operation, message in FAULTS:
            self.assertEqual(fault_of(DOCUMENT, operation), message, operation)
            with self.assertRaises(InvalidOperation) as caught:
                apply_operation(DOCUMENT, operation)
            self.assertEqual((caught.exception.index, caught.exception.message), (0, message))
            self.assertIsInstance(caught.exception, ViewError)

    def test_levels(self):
        for inside in (0, 1, 5, 20, 38, 39):
            document = (tower(inside),) if inside else ()
            parent = inside
            for new in (1, 2, 40 - inside, 41 - inside, 45 - inside):
                if new < 1 or new > 40:
                    continue
                node = tower(new, 100)
                for node in (node, tower(new, 100, (("text", 999, ""),)) if new < 40 else node):
                    deep = inside + len(numbers_in((node,)))
                    expected = None if deep <= 40 else "nested too deep"
                    self.assertEqual(fault_of(document, ("insert", parent, node, None)), expected, (inside, new))
                    if expected is None:
                        found = apply_operation(document, ("insert", parent, node, None))
                        self.assertTrue(is_document(found))
        document = (tower(40),)
        self.assertEqual(fault_of(document, ("insert", 40, NEW[:1] + (41, ""), None)), "nested too deep")
        self.assertIsNone(fault_of(document, ("insert", 39, NEW[:1] + (41, ""), 40)))
        # A level that is not the deepest one of the new nodes does not count, nor do those beside the parent.
        self.assertIsNone(fault_of((tower(40), element(50)), ("insert", 50, tower(39, 60), None)))
        wide = element(60, tower(3, 70), tower(39, 80), ("text", 200, ""))
        self.assertEqual(fault_of((element(50),), ("insert", 50, wide, None)), "nested too deep")

    def test_the_first_of_two_faults(self):
        deep = tower(40, 100)
        for operation, message in [
            (("insert", 77, element(1), 88), "no such element"), (("insert", 0, element(1), 88), "id in use"),
            (("insert", 4, tower(40, 8), 88), "id in use"), (("insert", 4, deep, 88), "no such kid"),
            (("insert", 4, deep, None), "nested too deep"), (("insert", 4, deep, 5), "nested too deep"),
            (("insert", 77, deep, None), "no such element"), (("insert", 4, tower(40, 2), 5), "id in use"),
            (("move", 77, 77, 77), "no such element"), (("remove", 77, 77), "no such element"),
            (("unset", 77, "a"), "no such element"),
        ]:
            self.assertEqual(fault_of(DOCUMENT, operation), message, operation)

    def test_apply_all(self):
        operations = [("remove", 0, 1), ("insert", 8, T1, None), ("text", 1, "x"), ("move", 0, 8, 4),
                      ("unset", 8, "x"), ("set", 8, "z", "1"), ("remove", 4, 5)]
        expected = (element(8, ("text", 1, "x"), attributes=(("z", "1"),)),
                    element(4, T2, OUTER[4][2], tag="main"))
        self.assertEqual(apply_all(DOCUMENT, operations), expected)
        self.assertEqual(apply_all(DOCUMENT, []), DOCUMENT)
        for index in range(len(operations) + 1):
            for wrong, message in FAULTS[:3] + [(("text", 99, ""), "no such text"), (("unset", 4, "q"),
                                                                                    "no such attribute")]:
                given = operations[:index] + [wrong] + operations[index:]
                kept = copy.deepcopy(given)
                with self.assertRaises(InvalidOperation) as caught:
                    apply_all(DOCUMENT, given)
                self.assertEqual((caught.exception.index, caught.exception.message), (index, message))
                self.assertEqual(given, kept)
        # Each one is looked at behind those before it.
        with self.assertRaises(InvalidOperation) as caught:
            apply_all(DOCUMENT, [("remove", 0, 4), ("text", 1, ""), ("text", 2, ""), ("text", 99, "")])
        self.assertEqual((caught.exception.index, caught.exception.message), (2, "no such text"))

    def test_random_operations(self):
        for seed in range(300):
            maker = DocumentMaker(seed)
            document = maker.document(range(1, 15))
            for _ in range(10):
                number = lambda: maker.chance.randint(0, 17)
                operation = maker.chance.choice([
                    ("remove", number(), number()), ("move", number(), number(), maker.chance.choice([None, number()])),
                    ("insert", number(), maker.node([18, number()], 2), maker.chance.choice([None, number()])),
                    ("text", number(), "z"), ("set", number(), "b", "z"), ("unset", number(), "b"),
                ])
                message = fault_of(document, operation)
                kept = copy.deepcopy(document)
                if message is None:
                    behind = apply_operation(document, operation)
                    self.assertTrue(is_document(behind) or operation[0] == "insert" and 0 in ids_of(behind))
                else:
                    with self.assertRaises(InvalidOperation):
                        apply_operation(document, operation)
                self.assertEqual(document, kept)
