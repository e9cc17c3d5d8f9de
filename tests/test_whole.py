"""What is promised over the whole program: nothing that raises changes anything, and roots stand alone ([2])."""

import copy
import random
import unittest

from tests.passes import told
from tests.roots import Watch, asked
from tests.test_replay import PROGRAM, act_by_chance, new
from viewloom import errors
from viewloom.documents.nodes import is_document
from viewloom.errors import AnswerGiven, UnknownComponent, UnknownLane, UnknownParameter, ViewError
from viewloom.passes.instances import image, walk
from viewloom.root.root import Root
from viewloom.root.serving import render_text, take_over
from viewloom.root.trees import written_tree
from viewloom.server.reading import read_tree
from viewloom.server.writing import plain_text, write_tree
from viewloom.tools.why import why
from viewloom.words.printing import program_text
from viewloom.words.reading import parse_program


class Raising(unittest.TestCase):
    def test_what_raises_changes_nothing(self):
        without = parse_program("component Other() { view {} }")
        for seed in range(15):
            chance = random.Random(seed)
            root = new()
            for _ in range(12):
                act_by_chance(root, chance)
                given = root.answers[0][0] if root.answers else None
                before = asked(root)
                for error, call in [
                    (UnknownLane, lambda: root.set_cell(1, "n", 1, "")), (UnknownLane, lambda: root.set_cell(99, "n", 1, "x")),
                    (UnknownLane, lambda: root.run_handler(1, "add", [1], "none")),
                    (UnknownLane, lambda: root.run_handler(99, "add", [1], "SYNC")),
                    (UnknownLane, lambda: root.set_values({"a": 9}, "0")), (UnknownLane, lambda: root.set_values({"z": 9}, "z")),
                    (UnknownParameter, lambda: root.set_values({"a": 1, "n": 2})),
                    (UnknownComponent, lambda: root.replace(without)),
                    *([(AnswerGiven, lambda: root.answer(given, 1)), (AnswerGiven, lambda: root.fail(given, "x"))] * bool(root.answers)),
                ]:
                    with self.assertRaises(error):
                        call()
                    self.assertEqual(asked(root), before)

    def test_asking_changes_nothing(self):
        root = new()
        for index in range(30):
            act_by_chance(root, random.Random(index))
            self.assertEqual(asked(root), asked(root))

    def test_errors(self):
        named = ["InvalidSource", "InvalidProgram", "Fault", "InvalidDocument", "InvalidOperation", "InvalidRecording",
                 "UnknownComponent", "UnknownParameter", "InvalidValue", "UnknownLane", "UnknownKey", "AnswerGiven",
                 "InvalidCall", "MissingAnswer", "RenderingFailed", "RenderingHeld"]
        classes = [getattr(errors, name) for name in named]
        for one in classes:
            self.assertTrue(issubclass(one, ViewError) and issubclass(one, ValueError))
            self.assertEqual([other for other in classes if issubclass(one, other)], [one])


class Alone(unittest.TestCase):
    def test_two_roots_of_one_program(self):
        program = copy.deepcopy(PROGRAM)
        for seed in range(8):
            chance = random.Random(seed)
            one, other = Root(program, "Main", {"a": "x"}), Root(program, "Main", {"a": "x"})
            other.flush()
            still = asked(other)
            for _ in range(25):
                act_by_chance(one, chance)
                self.assertEqual(asked(other), still)
        self.assertEqual(program, PROGRAM)

    def test_a_root_does_not_hang_on_what_it_gave(self):
        root = new()
        for index in range(25):
            act_by_chance(root, random.Random(index))
            before = asked(root)
            for found in (root.last_operations(), root.open_keys(), root.log_lines(), root.rendered_ids(), root.why(),
                          root.running_timers(), root.pending, root.whole_tree(), root.store_values(), root.recording()):
                spoil(found)
            self.assertEqual(asked(root), before)


def spoil(part):
    """Changes all lists, dicts and objects in something."""
    if isinstance(part, (list, tuple)):
        for inner in part:
            spoil(inner)
    if isinstance(part, list):
        part.append("spoiled")
    if isinstance(part, dict):
        for inner in part.values():
            spoil(inner)
        part["spoiled"] = 1
    if hasattr(part, "__dict__"):
        for inner in vars(part).values():
            spoil(inner)


class Walks(unittest.TestCase):
    def test_invariants(self):
        for seed in range(60):
            chance = random.Random(1000 + seed)
            root = new()
            watch = Watch(self, root)
            for _ in range(25):
                before = root.whole_tree()
                commits = root.commits
                act_by_chance(root, chance)
                watch.look()
                self.look(root)
                if root.commits == commits + 1:
                    self.assertEqual(root.why(), why(root.program, before, root.whole_tree()))

    def look(self, root):
        tree = root.whole_tree()
        self.assertTrue(is_document(root.document))
        self.assertEqual(tuple(image(tree)), root.document)
        self.assertEqual(plain_text(written_tree(tree)), root.html())
        self.assertEqual(read_tree(write_tree(written_tree(tree))), written_tree(tree))
        numbers = [one.number for one in walk(tree)]
        self.assertEqual(len(numbers), len(set(numbers)))
        self.assertTrue(all(1 <= number < root.next_id for number in numbers))
        for one in walk(tree):
            if one.form == "component":
                self.assertEqual(len(one.runs), len(one.wanted))
                self.assertTrue(all(run is not None for run in one.runs))
            else:
                self.assertEqual((one.cells, one.runs, one.wanted, one.env), ([], [], [], {}))
        self.assertTrue(tree or not (root.document or root.running_timers() or root.is_held and root.commits))
        self.assertLessEqual(len(root.running_timers()), 20)
        self.assertLessEqual(len(root.log_lines()), 200)

    def test_taken_over_on_the_way(self):
        for seed in range(30):
            chance = random.Random(seed)
            root = new()
            for _ in range(10):
                act_by_chance(root, chance)
            answers, values = root.answers, root.parameters
            try:
                text = render_text(PROGRAM, "Main", values, answers)
            except ViewError:
                continue
            taken, differences, late = take_over(PROGRAM, "Main", values, text, answers)
            self.assertEqual((differences, late), ([], []))
            self.assertEqual(taken.error is None and taken.last_operations(), taken.error is None and [])


class WholePrograms(unittest.TestCase):
    def test_canonical_texts_show_the_same(self):
        again = parse_program(program_text(PROGRAM))
        self.assertEqual(again, PROGRAM)
        for seed in range(5):
            one, other = Root(PROGRAM, "Main", {"a": "x"}), Root(again, "Main", {"a": "x"})
            for root in (one, other):
                chance = random.Random(seed)
                for _ in range(20):
                    act_by_chance(root, chance)
            self.assertEqual(asked(one), asked(other))
            self.assertEqual(told(one.whole_tree()), told(other.whole_tree()))
