"""Recordings of roots, and replaying them ([84])."""

import copy
import random
import unittest

from tests.roots import asked, component, first_of, rooted
from viewloom.errors import AnswerGiven, InvalidRecording, UnknownLane, UnknownParameter
from viewloom.root.replaying import replay
from viewloom.root.root import Root
from viewloom.root.serving import render_text, take_over
from viewloom.tools.calls import read_call, write_call
from viewloom.words.reading import parse_program

SOURCE = component(
    'state n = 0; state text = ""; state key = a; handler add(x) { n = n + x; log("add", x); s = s + 1; }'
    ' handler typed() { text = event.value; } handler wait(x) { after x { n = n + 1; log("fired", x); } every 7 { log("tick"); } }'
    ' handler bad() { log(1 / 0); } effect [n] { log("run", n); after 3 { log("of run"); } } cleanup { log("clean", n); }',
    '<p on click={do add(1)} on go={do bad()}>{n} {s} {text}</p> <input value={text} on input={do typed()}/>'
    ' <input kind="box" on change={do add(2)}/> <select on input={do add(3)}><option value="a"/><option value="b"/></select>'
    ' await { <Asker k={key}/> } else { "wait" } try { <Fails n={n}/> } catch f { <b on click={f.retry}>{f.message}</b> }',
    "a", "store s = 0;",
    'component Asker(k) { resource r = k; view { <i>{r}</i> } } component Fails(n) { effect [n] { if n > 8 { log([] + n); } }'
    ' view { {9 / (n - 5)} } }'
)
PROGRAM = parse_program(SOURCE)


def new(values=None):
    return Root(PROGRAM, "Main", {"a": "x"} if values is None else values)


class Recordings(unittest.TestCase):
    def test_each_call(self):
        root = new({"a": 'quo"te'})
        wanted = [("root", ["Main", {"a": 'quo"te'}])]
        calls = [
            ("work", [3], lambda: root.work(3)), ("flush", [], lambda: root.flush()), ("advance", [0], lambda: root.advance(0)),
            ("set", [1, "n", {"x": [None]}, "idle"], lambda: root.set_cell(1, "n", {"x": [None]}, "idle")),
            ("set", [1, "n", 3, "usual"], lambda: root.set_cell(1, "n", 3)),
            ("set", [99, "zz", 3, "sync"], lambda: root.set_cell(99, "zz", 3, "sync")),
            ("run", [1, "add", [2, "b"], "transition"], lambda: root.run_handler(1, "add", [2, "b"], "transition")),
            ("run", [1, "none", [], "usual"], lambda: root.run_handler(1, "none", [])),
            ("values", [{"a": 1}, "sync"], lambda: root.set_values({"a": 1}, "sync")),
            ("values", [{}, "usual"], lambda: root.set_values({})),
            ("store", ["s", [1]], lambda: root.set_store("s", [1])), ("store", ["t", 1], lambda: root.set_store("t", 1)),
            ("answer", [{"k": 1}, "v"], lambda: root.answer({"k": 1}, "v")), ("fail", ["k", "m\n"], lambda: root.fail("k", "m\n")),
            ("event", [2, "go", {"b": 1, "a": 2}], lambda: root.event(2, "go", {"b": 1, "a": 2})),
            ("event", [0, "", {}], lambda: root.event(0, "", {})), ("click", [2], lambda: root.click(2)),
            ("enter", [3, "ab"], lambda: root.enter(3, "ab")), ("clear", [-1], lambda: root.clear(-1)),
            ("choose", [5, "b"], lambda: root.choose(5, "b")), ("take_log", [], lambda: root.take_log()),
            ("unmount", [], lambda: root.unmount()),
        ]
        for name, arguments, call in calls:
            call()
            wanted.append((name, arguments))
            self.assertEqual([read_call(text) for text in root.recording()], wanted)
            self.assertEqual(asked(replay(PROGRAM, root.recording())), asked(root))

    def test_what_only_asks_is_not_noted(self):
        root = new()
        root.flush()
        before = root.recording()
        asked(root)
        root.html(), root.why(), root.cells(1), root.ids_of_tag("p"), root.whole_tree(), root.running_timers()
        self.assertEqual(root.recording(), before)

    def test_what_raises_is_not_noted(self):
        root = new()
        root.answer("x", 1)
        before = root.recording()
        for error, call in [(UnknownLane, lambda: root.set_cell(1, "n", 1, "x")),
                            (UnknownLane, lambda: root.run_handler(1, "add", [], "")),
                            (UnknownLane, lambda: root.set_values({}, "z")), (UnknownParameter, lambda: root.set_values({"z": 1})),
                            (AnswerGiven, lambda: root.answer("x", 2)), (AnswerGiven, lambda: root.fail("x", ""))]:
            with self.assertRaises(error):
                call()
            self.assertEqual(root.recording(), before)

    def test_acts_among_the_arguments(self):
        act = ("act", 1, "add", [])
        for call in (lambda root: root.set_cell(1, "n", act), lambda root: root.run_handler(1, "add", [[act]]),
                     lambda root: root.set_values({"a": {"x": [act]}}), lambda root: root.set_store("s", act),
                     lambda root: root.answer("z", [act]), lambda root: root.answer(act, 1), lambda root: root.fail([act], ""),
                     lambda root: root.event(2, "go", {"x": act})):
            root = new()
            root.flush()
            self.assertIsNotNone(root.recording())
            call(root)
            self.assertIsNone(root.recording())
            root.flush()
            self.assertIsNone(root.recording())
        self.assertIsNone(new({"a": act}).recording())
        root = new()
        with self.assertRaises(UnknownLane):
            root.set_cell(1, "n", act, "none")
        with self.assertRaises(UnknownParameter):
            root.set_values({"z": act})
        self.assertEqual(len(root.recording()), 1)

    def test_roots_without_a_recording(self):
        self.assertIsNone(rooted(SOURCE, {"a": "x"}, [("x", ("value", 1))]).recording())
        self.assertIsNotNone(rooted(SOURCE, {"a": "x"}, []).recording())
        text = render_text(PROGRAM, "Main", {"a": "x"}, [])
        self.assertIsNone(take_over(PROGRAM, "Main", {"a": "x"}, text, [])[0].recording())
        root = new()
        root.flush()
        self.assertIs(root.replace(PROGRAM), True)
        self.assertIsNone(root.recording())


class Replaying(unittest.TestCase):
    def test_by_chance(self):
        for seed in range(40):
            chance = random.Random(seed)
            root = new()
            for _ in range(30):
                act_by_chance(root, chance)
            texts = root.recording()
            self.assertEqual(asked(replay(PROGRAM, texts)), asked(root), seed)
            self.assertEqual(root.recording(), texts)

    def test_on_the_way(self):
        chance = random.Random(99)
        root = new()
        for _ in range(80):
            act_by_chance(root, chance)
            self.assertEqual(asked(replay(PROGRAM, root.recording())), asked(root))

    def test_a_replayed_root_goes_on(self):
        root = new()
        root.flush()
        other = replay(PROGRAM, root.recording())
        for one in (root, other):
            one.click(first_of(one, "p"))
            one.answer("x", "X")
            one.flush()
        self.assertEqual(asked(root), asked(other))
        self.assertEqual(len(other.recording()), 5)

    def test_nothing_that_is_passed_changes(self):
        texts = ['["root","Main",{"a":["x"]}]', '["flush"]', '["set",1,"n",[1],"sync"]']
        kept, program = list(texts), copy.deepcopy(PROGRAM)
        root = replay(PROGRAM, texts)
        texts.append("bad")
        self.assertEqual(root.recording(), kept)
        root.recording().clear()
        self.assertEqual((root.recording(), PROGRAM), (kept, program))


class WrongRecordings(unittest.TestCase):
    def assert_wrong(self, texts, index, program=PROGRAM):
        kept = list(texts)
        with self.assertRaises(InvalidRecording, msg=texts) as caught:
            replay(program, texts)
        self.assertEqual(caught.exception.index, index, texts)
        self.assertEqual(texts, kept)

    def test_wrong_beginnings(self):
        for text in ["", "bad", '["root"]', '["root","Main"]', '["root","Main",[]]', '["flush"]', '["root","Gone",{}]',
                     '["root","Main",{"z":1}]', '["root","",{}]', '["root","main",{}]']:
            self.assert_wrong([text], 0)
            self.assert_wrong([text, '["flush"]', '["none"]'], 0)
        self.assert_wrong([], 0)
        self.assert_wrong(['["root","Main",{}]'], 0, parse_program(""))

    def test_wrong_calls(self):
        first = '["root","Main",{"a":"x"}]'
        for name, values in [
            ("none", []), ("Work", [1]), ("work_at", [1]), ("set_cell", [1, "n", 1, "sync"]), ("replace", []), ("html", []),
            ("work", []), ("work", ["1"]), ("work", [None]), ("work", [True]), ("work", [1, 2]), ("work", [[1]]), ("work", [-1]),
            ("flush", [1]), ("flush", [None]), ("advance", []), ("advance", ["1"]), ("advance", [-1]), ("advance", [False]),
            ("set", [1, "n", 1]), ("set", [1, "n", 1, "sync", 1]), ("set", ["1", "n", 1, "sync"]), ("set", [1, 2, 1, "sync"]),
            ("set", [1, "n", 1, 0]), ("set", [1, "n", 1, "fast"]), ("set", [True, "n", 1, "sync"]), ("set", [1, "n", 1, ""]),
            ("set", [99, "n", 1, "Sync"]), ("set", [1, None, 1, "sync"]),
            ("run", [1, "add", []]), ("run", [1, "add", {}, "sync"]), ("run", [1, "add", 1, "sync"]), ("run", [1, 1, [], "sync"]),
            ("run", [None, "add", [], "sync"]), ("run", [1, "add", [], "none"]), ("run", [1, "add", [], 1]),
            ("values", [{}]), ("values", [[], "sync"]), ("values", [{}, "none"]), ("values", [{"z": 1}, "sync"]),
            ("values", [None, "sync"]), ("values", ["sync", {}]),
            ("store", ["s"]), ("store", [1, 1]), ("store", ["s", 1, 1]), ("store", [None, 1]), ("store", []),
            ("answer", ["k"]), ("answer", ["k", 1, 2]), ("answer", []), ("fail", ["k"]), ("fail", ["k", 1]), ("fail", ["k", None]),
            ("event", [1, "go"]), ("event", [1, "go", []]), ("event", [1, 1, {}]), ("event", ["1", "go", {}]),
            ("event", [1, "go", None]), ("event", [1, "go", {}, 1]),
            ("click", []), ("click", ["1"]), ("click", [1, 2]), ("click", [None]), ("enter", [1]), ("enter", [1, 2]),
            ("enter", ["a", 1]), ("enter", ["a", "b"]), ("clear", [None]), ("enter", [1, "a", "b"]), ("clear", []), ("clear", ["a"]), ("clear", [1, 1]),
            ("choose", [1]), ("choose", [1, 2]), ("choose", [1, None]), ("choose", ["a", "a"]), ("take_log", [1]),
            ("unmount", [None]), ("root", ["Main", {}]), ("cells", [1]), ("recording", []),
        ]:
            text = write_call(name, values)
            self.assert_wrong([first, text], 1)
            self.assert_wrong([first, '["flush"]', '["click",2]', text, '["flush"]'], 3)

    def test_calls_that_raise(self):
        first = '["root","Main",{"a":"x"}]'
        for again in ('["answer","x",2]', '["fail","x",""]'):
            self.assert_wrong([first, '["answer","x",1]', '["flush"]', again], 3)
            self.assert_wrong([first, '["fail","x","m"]', again], 2)
        replay(PROGRAM, [first, '["answer","x",1]', '["fail","y",""]', '["answer",["x"],1]', '["answer",null,null]'])

    def test_the_whole_text_is_read_first(self):
        # A text that is none of a call is told, although a call ahead of it would raise.
        first = '["root","Main",{"a":"x"}]'
        self.assert_wrong([first, '["none"]', "bad"], 2)
        self.assert_wrong(['["root","Gone",{}]', "bad"], 1)

    def test_a_sign_that_is_wrong(self):
        first = '["root","Main",{"a":"x"}]'
        for text in ('["work", 1]', '["work",01]', '["work",1] ', '["work",1', '[work,1]', '["work",1.0]'):
            self.assert_wrong([first, text], 1)


def act_by_chance(root, chance):
    """Makes a call by chance."""
    number = chance.choice([1, 2, 4, 5, 6, *[node[1] for node in root.document], chance.randint(1, 40)])
    lane = chance.choice(["sync", "usual", "transition", "idle"])
    value = chance.choice([0, 1, 5, 9, 12, None, "x", "y", [1], {"a": True}])
    chance.choice([
        lambda: root.work(chance.randint(0, 6)), lambda: root.work(3), lambda: root.flush(), lambda: root.advance(chance.randint(0, 9)),
        lambda: root.advance(chance.choice([3, 6000])),
        lambda: root.set_cell(1, chance.choice(["n", "n", "key", "text", "zz"]), value, lane),
        lambda: root.run_handler(1, chance.choice(["add", "wait", "bad"]), [value], lane),
        lambda: root.set_values({"a": value}, lane), lambda: root.set_store("s", value),
        lambda: answered(root, value), lambda: root.event(number, chance.choice(["click", "go", "change"]), {"x": value}),
        lambda: root.click(number), lambda: root.enter(number, "ab"), lambda: root.clear(number),
        lambda: root.choose(number, chance.choice("abc")), lambda: root.take_log(),
        lambda: root.unmount() if chance.random() < 0.2 else root.flush(),
    ])()


def answered(root, value):
    """Gives an answer for a key, unless it has one."""
    keys = root.open_keys() or [value]
    try:
        if value == 5:
            root.fail(keys[0], "no")
        else:
            root.answer(keys[-1], "v")
    except AnswerGiven:
        pass
