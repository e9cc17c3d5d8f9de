"""Walks by chance of roots of programs by chance, with what always holds ([74] to [85], [2])."""

import copy
import random
import unittest

from tests.random_sound import sound_program
from tests.roots import Watch, asked
from viewloom.documents.nodes import ids_of, is_document
from viewloom.errors import AnswerGiven, RenderingFailed, RenderingHeld
from viewloom.passes.instances import image, walk
from viewloom.root.replaying import replay
from viewloom.root.root import Root
from viewloom.root.serving import render_text, take_over


def step(root, chance, programs):
    """Makes a call by chance."""
    number = chance.choice(ids_of(root.document) or [1])
    owner = chance.choice([one.number for one in walk(root.whole_tree())] or [1])
    lane = chance.choice(["sync", "usual", "transition", "idle"])
    value = chance.choice([0, 1, 2, None, "a", [1], {"u": 1}, True])
    if chance.random() < 0.03:
        value = ("act", owner, chance.choice(["h0", "h1", "retry"]), [1])
    chance.choice([
        lambda: root.work(chance.randint(0, 5)),
        lambda: root.work(1),
        lambda: root.flush(),
        lambda: root.advance(chance.choice([0, 1, 5, 20, 6000])),
        lambda: root.set_cell(owner, chance.choice(["x0", "x1"]), value, lane),
        lambda: root.run_handler(owner, chance.choice(["h0", "h1", "retry"]), [value], lane),
        lambda: root.set_values({"p": value, "q": chance.choice([0, 1])}, lane),
        lambda: root.set_store(chance.choice(["s0", "s1"]), value),
        lambda: answered(root, chance, value),
        lambda: root.event(number, chance.choice(["click", "input", "keydown"]), {"z": value}),
        lambda: root.click(number),
        lambda: root.enter(number, "ab"),
        lambda: root.choose(number, chance.choice(["a", "", "one"])),
        lambda: root.clear(number),
        lambda: root.take_log(),
        lambda: root.replace(chance.choice(programs)) if chance.random() < 0.3 else None,
        lambda: root.unmount() if chance.random() < 0.1 else None,
    ])()


def answered(root, chance, value):
    """Gives an answer, unless the key has one."""
    key = chance.choice(root.open_keys() or [value])
    try:
        if chance.random() < 0.8:
            root.answer(key, value)
        else:
            root.fail(key, "no")
    except AnswerGiven:
        pass


class RandomRoots(unittest.TestCase):
    def look(self, root):
        tree = root.whole_tree()
        self.assertTrue(is_document(root.document))
        self.assertEqual(tuple(image(tree)), root.document)
        numbers = [one.number for one in walk(tree)]
        self.assertEqual(len(numbers), len(set(numbers)))
        self.assertTrue(all(number < root.next_id for number in numbers))
        self.assertTrue(root.error is None or not tree)
        self.assertEqual(root.is_held, bool(root.held_keys))

    def look_at_text(self, root):
        """Takes over what a root with the same answers renders at once."""
        try:
            text = render_text(root.program, root.component, root.parameters, root.answers)
        except (RenderingFailed, RenderingHeld):
            return
        _, differences, late = take_over(root.program, root.component, root.parameters, text, root.answers)
        self.assertEqual((differences, late), ([], []), text)

    def test_walks(self):
        recorded = 0
        for seed in range(150):
            chance = random.Random(seed)
            programs = [sound_program(3 * seed + index) for index in range(3)]
            kept = copy.deepcopy(programs)
            root = Root(programs[0], "C0", {"p": 0, "q": 1})
            watch = Watch(self, root)
            for _ in range(25):
                step(root, chance, programs)
                watch.look()
                self.look(root)
            self.look_at_text(root)
            if root.recording() is not None:
                recorded += 1
                self.assertEqual(asked(replay(programs[0], root.recording())), asked(root), seed)
            self.assertEqual(programs, kept)
        self.assertGreater(recorded, 30)
