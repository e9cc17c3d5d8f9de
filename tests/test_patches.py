"""Rising rows, kept nodes and patches ([35] to [38])."""

import copy
import itertools
import random
import unittest

from tests.documents import DocumentMaker, numbers_in
from viewloom.documents.nodes import is_document
from viewloom.documents.operations import apply_all
from viewloom.documents.patches import is_careful, kept_ids, patch
from viewloom.documents.rising import best_row


def text(number, content=""):
    return ("text", number, content)


def element(number, *kids, tag="p", attributes=()):
    return ("element", number, tag, attributes, kids)


def searched_row(numbers):
    """The best rising row, found among all rows."""
    for length in range(len(numbers), 0, -1):
        # The rows of a length come in the order of their places.
        for places in itertools.combinations(range(len(numbers)), length):
            row = [numbers[place] for place in places]
            if all(a < b for a, b in zip(row, row[1:])):
                return row
    return []


class Rows(unittest.TestCase):
    def test_rows(self):
        for numbers, row in [
            ([], []), ([5], [5]), ([1, 2, 3], [1, 2, 3]), ([3, 2, 1], [3]), ([2, 1, 3], [2, 3]), ([2, 1, 4, 3], [2, 4]),
            ([3, 1, 2, 5, 4], [1, 2, 5]), ([-5, 10 ** 9, 0], [-5, 10 ** 9]), ([4, 5, 1, 2, 3], [1, 2, 3]),
            ([4, 5, 1, 2], [4, 5]), ([1, 9, 2, 8, 3], [1, 2, 8]), ([1, 3, 2], [1, 3]),
        ]:
            kept = list(numbers)
            self.assertEqual(best_row(numbers), row)
            self.assertEqual(numbers, kept)

    def test_all_orders_of_up_to_six_numbers(self):
        for count in range(7):
            for numbers in itertools.permutations(range(count)):
                self.assertEqual(best_row(list(numbers)), searched_row(numbers))

    def test_longer_rows(self):
        for seed in range(200):
            chance = random.Random(seed)
            numbers = chance.sample(range(-50, 50), chance.randint(7, 11))
            self.assertEqual(best_row(numbers), searched_row(numbers))

    def test_great_rows(self):
        chance = random.Random(1)
        numbers = chance.sample(range(10 ** 6), 20000)
        row = best_row(numbers)
        self.assertEqual(row, sorted(row))
        self.assertEqual(best_row(list(range(20000))), list(range(20000)))
        self.assertEqual(best_row(list(range(20000, 0, -1))), [20000])

    def test_the_row_may_be_changed(self):
        numbers = [1, 2, 3]
        best_row(numbers).clear()
        self.assertEqual(best_row(numbers), [1, 2, 3])


INNER = element(5, text(6, "a"), text(7, "b"), tag="b")
CASES = [
    # Nothing, everything.
    ((), (), []),
    ((), (text(1), element(2, text(3))), [("insert", 0, element(2, text(3)), None), ("insert", 0, text(1), 2)]),
    ((text(1), element(2, text(3))), (), [("remove", 0, 1), ("remove", 0, 2)]),
    ((text(1, "a"), INNER), (text(1, "a"), INNER), []),
    # Texts and attributes.
    ((text(1, "a"),), (text(1, "b"),), [("text", 1, "b")]),
    ((element(1, text(2, "a"), attributes=(("a", "1"), ("b", "2"), ("d", "4"), ("e", "5"))),),
     (element(1, text(2, "c"), attributes=(("b", "3"), ("c", "6"), ("e", "5"), ("f", ""))),),
     [("unset", 1, "a"), ("unset", 1, "d"), ("set", 1, "b", "3"), ("set", 1, "c", "6"), ("set", 1, "f", ""),
      ("text", 2, "c")]),
    ((element(1, attributes=(("a", ""),)),), (element(1),), [("unset", 1, "a")]),
    ((element(1),), (element(1, attributes=(("a", ""),)),), [("set", 1, "a", "")]),
    # Another tag, another kind of node.
    ((element(1, text(2)), text(3)), (element(1, text(2), tag="q"), text(3)),
     [("remove", 0, 1), ("insert", 0, element(1, text(2), tag="q"), 3)]),
    ((text(1), text(2)), (element(1), text(2)), [("remove", 0, 1), ("insert", 0, element(1), 2)]),
    ((element(1, text(2)),), (text(1, "a"),), [("remove", 0, 1), ("insert", 0, text(1, "a"), None)]),
    # Another parent: removed there, inserted here.
    ((element(1, text(2, "a")), element(3)), (element(1), element(3, text(2, "a"))),
     [("remove", 1, 2), ("insert", 3, text(2, "a"), None)]),
    ((element(1, element(2, text(3))),), (element(2, text(3)), element(1)),
     [("remove", 1, 2), ("insert", 0, element(2, text(3)), 1)]),
    ((element(1, text(2)),), (element(9, element(1, text(2))),),
     [("remove", 0, 1), ("insert", 0, element(9, element(1, text(2))), None)]),
    ((element(9, element(1, text(2))),), (element(1, text(2)),),
     [("remove", 0, 9), ("insert", 0, element(1, text(2)), None)]),
    # Moves: those of the best rising row stay.
    ((text(1), text(2), text(3)), (text(3), text(1), text(2)), [("move", 0, 3, 1)]),
    ((text(1), text(2), text(3)), (text(2), text(3), text(1)), [("move", 0, 1, None)]),
    ((text(1), text(2)), (text(2), text(1)), [("move", 0, 1, None)]),
    ((text(1), text(2), text(3)), (text(3), text(2), text(1)), [("move", 0, 1, None), ("move", 0, 2, 1)]),
    ((text(1), text(2), text(3), text(4)), (text(2), text(1), text(4), text(3)),
     [("move", 0, 3, None), ("move", 0, 1, 4)]),
    ((element(1, text(2), text(3), text(4)),), (element(1, text(4), text(5), text(2), text(3)),),
     [("insert", 1, text(5), 2), ("move", 1, 4, 5)]),
    # Removed, added and moved together, and within kids; all removes come first, then kid by kid.
    ((text(1), element(2, text(3), text(4, "x"), element(5, text(6))), text(7), text(8)),
     (text(8), element(2, text(4, "y"), text(9), element(5, text(10))), text(1, "z"), text(11)),
     [("remove", 2, 3), ("remove", 5, 6), ("remove", 0, 7), ("text", 1, "z"), ("text", 4, "y"),
      ("insert", 5, text(10), None), ("insert", 2, text(9), 5), ("insert", 0, text(11), None), ("move", 0, 1, 11),
      ("move", 0, 2, 1)]),
    # The order of the old document for the kids, the own changes ahead of those in it.
    ((element(1, text(2, "a")), element(3, text(4, "b"))),
     (element(3, text(4, "c"), attributes=(("k", "v"),)), element(1, text(2, "d"), attributes=(("k", "w"),))),
     [("set", 1, "k", "w"), ("text", 2, "d"), ("set", 3, "k", "v"), ("text", 4, "c"), ("move", 0, 1, None)]),
    # A removed parent takes its kids along.
    ((element(1, element(2, text(3)), text(4)), text(5)), (text(5),), [("remove", 0, 1)]),
    ((element(1, element(2, text(3)), text(4)),), (element(1, text(4), text(3)),),
     [("remove", 1, 2), ("insert", 1, text(3), None)]),
]


def kept_by_words(old, new):
    """The ids of the kept nodes, by the words of [35]."""
    found = []
    for node in new:
        partners = [other for other in old if other[1] == node[1] and other[0] == node[0]]
        if partners and (node[0] == "text" or partners[0][2] == node[2]):
            found.append(node[1])
            if node[0] == "element":
                found.extend(kept_by_words(partners[0][4], node[4]))
    return found


def variants(seed):
    """Returns two documents, the second one mostly made from the first one."""
    maker = DocumentMaker(seed)
    old = maker.document(range(1, 16))
    if seed % 4 == 0:
        return old, maker.document(range(1, 16))
    used = numbers_in(old)
    return old, maker.changed(old, [number for number in range(1, 30) if number not in used])


class Patches(unittest.TestCase):
    def test_patches(self):
        for old, new, operations in CASES:
            self.assertTrue(is_document(old) and is_document(new))
            kept = copy.deepcopy((old, new))
            self.assertEqual(patch(old, new), operations)
            self.assertEqual((old, new), kept)
            self.assertEqual(apply_all(old, operations), new)
            self.assertTrue(is_careful(old, new, operations))

    def test_kept_ids(self):
        self.assertEqual(kept_ids((), ()), [])
        old = (text(1), element(2, text(3), element(4, text(5))), text(6))
        self.assertEqual(kept_ids(old, old), [1, 2, 3, 4, 5, 6])
        self.assertEqual(kept_ids(old, ()), [])
        self.assertEqual(kept_ids((), old), [])
        for new, kept in [
            ((text(6), element(2, element(4, text(5)), text(3)), text(1)), [6, 2, 4, 5, 3, 1]),
            ((element(2, text(3), tag="q"), text(1)), [1]), ((text(2), element(1)), []),
            ((text(3), element(4, text(5)), text(1)), [1]), ((element(2, text(5), text(3)),), [2, 3]),
            ((element(2, element(3), text(4), text(5)),), [2]), ((element(9, text(1)), text(6, "new")), [6]),
            ((element(2, element(4, text(3)), text(5)),), [2, 4]),
            ((element(2, element(4, text(5), attributes=(("a", ""),))),), [2, 4, 5]),
        ]:
            self.assertEqual(kept_ids(old, new), kept, new)

    def test_random_documents(self):
        moves = 0
        for seed in range(1500):
            old, new = variants(seed)
            self.assertEqual(kept_ids(old, new), kept_by_words(old, new))
            operations = patch(old, new)
            self.assertEqual(apply_all(old, operations), new)
            self.assertTrue(is_careful(old, new, operations))
            self.assertEqual(patch(new, new), [])
            moves += any(operation[0] == "move" for operation in operations)
            kinds = [operation[0] for operation in operations]
            self.assertEqual(kinds, sorted(kinds, key=lambda kind: kind != "remove"))
        self.assertGreater(moves, 150)

    def test_is_careful(self):
        old = (text(1), element(2, text(3), text(4)), text(5))
        new = (text(5), element(2, text(4), text(6)), text(1, "x"))
        for operations, careful in [
            ([], True), ([("remove", 2, 3)], True), ([("remove", 0, 9)], True), ([("insert", 2, text(6), None)], True),
            ([("move", 0, 1, None), ("text", 1, "x"), ("set", 2, "a", ""), ("unset", 2, "a")], True),
            ([("remove", 0, 1)], False), ([("remove", 0, 2)], False), ([("remove", 2, 4)], False),
            ([("remove", 7, 5)], False), ([("remove", 2, 3), ("move", 0, 1, None), ("remove", 0, 5)], False),
            ([("insert", 0, text(1), None)], False), ([("insert", 0, element(9, text(4)), None)], False),
            ([("insert", 0, element(9, element(8, element(7, text(5)))), 1)], False),
            ([("insert", 0, element(9, text(3)), None)], True), ([("insert", 0, text(3), 1)], True),
            ([("insert", 0, element(9, text(6), text(7)), None), ("remove", 2, 3)], True),
        ]:
            self.assertIs(is_careful(old, new, operations), careful, operations)
        # A node that only has the id of an old one elsewhere is not kept.
        self.assertIs(is_careful((text(1), element(2)), (element(2, text(1)),), [("remove", 0, 1)]), True)

    def test_no_careful_list_is_shorter_or_has_fewer_moves(self):
        """All careful lists that lead from one small document to another one, up to the length of the patch."""
        documents = self.small_documents()
        chance = random.Random(3)
        for _ in range(60):
            old, new = chance.choice(documents), chance.choice(documents)
            operations = patch(old, new)
            shortest, fewest = self.searched(old, new, len(operations))
            self.assertEqual(shortest, len(operations), (old, new))
            self.assertEqual(fewest, sum(operation[0] == "move" for operation in operations), (old, new))

    def small_documents(self):
        found = [()]
        for count in range(1, 4):
            for numbers in itertools.permutations(range(1, 4), count):
                found.append(tuple(text(number) for number in numbers))
        found += [(text(1, "x"), text(2)), (element(1), text(2)), (element(1, text(2)), text(3)),
                  (element(1, text(3)), text(2)), (text(2), element(1, text(3))), (element(1, tag="q"), text(2)),
                  (element(1, text(2), text(3)),), (element(1, text(3), text(2)),), (text(3), element(1, text(2)))]
        return found

    def searched(self, old, new, most):
        """Returns the length of the shortest careful list, and the least number of moves of any one that is found."""
        inserts = self.parts(new)
        seen = {old: {0}}
        shortest, fewest = (0, 0) if old == new else (None, None)
        layer = {(old, 0)}
        # Two more than the patch needs: a longer list might have fewer moves.
        for length in range(1, most + 2):
            following = set()
            for document, moves in layer:
                for operation in self.steps(old, document, new, inserts):
                    behind = apply_all(document, [operation])
                    count = moves + (operation[0] == "move")
                    if count in seen.setdefault(behind, set()):
                        continue
                    seen[behind].add(count)
                    following.add((behind, count))
                    if behind == new:
                        shortest = length if shortest is None else shortest
                        fewest = count if fewest is None else min(count, fewest)
            layer = following
        return shortest, fewest

    def parts(self, nodes):
        found = []
        for node in nodes:
            found.append(node)
            if node[0] == "element":
                found.append(node[:4] + ((),))
                found.extend(self.parts(node[4]))
        return found

    def steps(self, old, document, new, inserts):
        used = set(numbers_in(document))
        parents = [(0, document)] + [(node[1], node[4]) for node in self.parts(document) if node[0] == "element"]
        found = []
        for parent, kids in parents:
            for kid in kids:
                found.append(("remove", parent, kid[1]))
                for ahead in [None] + [other[1] for other in kids if other != kid]:
                    found.append(("move", parent, kid[1], ahead))
                if kid[0] == "text":
                    found.extend(("text", kid[1], content) for content in ("", "x"))
            for node in inserts:
                if not used & set(numbers_in((node,))):
                    found.extend(("insert", parent, node, ahead) for ahead in [None] + [kid[1] for kid in kids])
        return [operation for operation in found if is_careful(old, new, [operation])]
