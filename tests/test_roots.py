"""Roots: new ones, deeds, and that what is passed and returned stands alone ([74], [75], [2])."""

import copy
import unittest

from tests.helpers import shares
from tests.passes import told
from tests.roots import asked, component, first_of, in_short, lanes, rooted
from viewloom.errors import AnswerGiven, UnknownComponent, UnknownLane, UnknownParameter, ViewError
from viewloom.root.root import Root
from viewloom.words.reading import parse_program

PLAIN = component("state n = a;", "<p>{n} {b}</p>", "a, b", "store s = [1]; store t = {x: 1};")


class NewRoots(unittest.TestCase):
    def test_new_root(self):
        root = Root(parse_program(PLAIN), "Main", {"a": 1})
        self.assertEqual((root.clock, root.commits, root.error, root.document, root.pending, root.is_held),
                         (0, 0, None, (), [(1, 0)], False))
        self.assertEqual(len(root.controls), 0)
        self.assertEqual((root.last_operations(), root.open_keys(), root.log_lines(), root.whole_tree(),
                          root.rendered_ids(), root.running_timers(), root.why()), ([], [], [], [], [], [], []))
        self.assertEqual(root.store_values(), {"s": [1], "t": {"x": 1}})
        self.assertEqual(root.recording(), ['["root","Main",{"a":1}]'])
        self.assertEqual((root.html(), root.ids_of_tag("p"), root.cells(1), root.take_log()), ("", [], None, []))

    def test_first_commit(self):
        root = rooted(PLAIN, {"a": 1, "b": "x"})
        self.assertEqual(root.html(), "<p>1x</p>")
        self.assertEqual(in_short(root), "1Main[2p[3'1' 4'x']]")
        self.assertEqual((root.commits, root.error, root.pending), (1, None, []))
        self.assertEqual(root.last_operations(), [("insert", 0, root.document[0], None)])
        self.assertEqual(root.rendered_ids(), [1])
        self.assertEqual(root.why(), [(1, "Main", ["new"])])
        self.assertEqual(root.ids_of_tag("p"), [2])
        self.assertEqual(root.ids_of_tag("b"), [])
        self.assertEqual(root.cells(1), [("n", 1, 0)])
        for number in (0, 2, 3, 9):
            self.assertIsNone(root.cells(number))

    def test_parameters(self):
        self.assertEqual(rooted(PLAIN).html(), "<p></p>")
        self.assertEqual(rooted(PLAIN, {"b": 2}).html(), "<p>2</p>")

    def test_errors(self):
        program = parse_program(PLAIN)
        with self.assertRaises(UnknownComponent) as caught:
            Root(program, "main", {"z": 1})
        self.assertEqual(caught.exception.name, "main")
        with self.assertRaises(UnknownParameter) as caught:
            Root(program, "Main", {"a": 1, "z": 1, "y": 2})
        self.assertEqual(caught.exception.name, "z")
        with self.assertRaises(UnknownParameter):
            Root(program, "Main", {"n": 1})
        self.assertTrue(issubclass(UnknownComponent, ViewError) and issubclass(UnknownParameter, ViewError))

    def test_ids_of_tag_in_order(self):
        root = rooted(component("", "<p><b/><p/></p> <b/> each x in [1, 2] by -x { <p/> }"))
        self.assertEqual((root.ids_of_tag("p"), root.ids_of_tag("b"), root.ids_of_tag("")), ([2, 4, 6, 7], [3, 5], []))
        self.assertEqual(rooted(component("", '"p" <b/>')).ids_of_tag("p"), [])

    def test_answers(self):
        source = component('resource r = "k"; resource q = "l";', "{r} {q}")
        root = rooted(source, answers=[("k", ("value", 1)), ("l", ("value", "L"))])
        self.assertEqual((root.html(), root.open_keys(), root.recording()), ("1L", [], None))
        root = rooted(source, answers=[("k", ("error", "bad"))])
        self.assertEqual((root.html(), root.error), ("", "bad"))
        root = rooted(source, answers=[("m", ("value", 1))])
        self.assertEqual((root.html(), root.open_keys(), root.is_held), ("", ["k"], True))


DEEDS = component(
    "state n = 0; handler add(x) { n = n + x; } handler far(x) { call x(5); } handler put(x) { s = x; }"
    " handler say(x, y) { log(x, y); } handler again(x) { call x(); } handler wait(x) { after x { log(x); } }"
    " handler tick() { every 5 { n = n + 1; } } handler both() { n = 1; s = 7; later { n = n * 2; } }"
    " handler end() { stop; prevent; } handler bad() { n = 1; log(1); log(1 / 0); log(2); } handler gone(x) { t = x; }",
    '{n} {s} <Leaf/> <p/>', "", 'store s = 0; store t = null;',
    more="component Leaf() { state m = 0; handler up(x) { m = m + x; } view { {m} } }"
)


class Deeds(unittest.TestCase):
    def setUp(self):
        self.root = rooted(DEEDS)

    def run_it(self, name, *arguments, lane="usual"):
        return self.root.run_handler(1, name, list(arguments), lane)

    def test_send(self):
        self.assertEqual(self.run_it("add", 3), (True, False, None))
        self.assertEqual((self.root.cells(1), self.root.pending), ([("n", 0, 1)], [(1, 0)]))
        self.root.advance(7)
        self.run_it("add", 3, lane="idle")
        self.assertEqual((self.root.cells(1), self.root.pending), ([("n", 0, 2)], [(1, 0), (3, 7)]))
        self.assertEqual(self.root.flush(), (True, 2))
        self.assertEqual((self.root.cells(1), self.root.html()), ([("n", 6, 0)], "600<p></p>"))

    def test_send_to_another_component(self):
        leaf = first_of(self.root, "Leaf")
        self.run_it("far", ("act", leaf, "up", []), lane="transition")
        self.assertEqual((self.root.cells(leaf), self.root.pending), ([("m", 0, 1)], [(2, 0)]))
        for act in (("act", 99, "up", []), ("act", leaf, "down", []), ("act", 2, "up", [])):
            self.assertEqual(self.run_it("far", act), (True, False, None))
        self.assertEqual(lanes(self.root), [2])

    def test_dropped_updates_wake_too(self):
        for _ in range(55):
            self.run_it("add", 1, lane="idle")
        self.assertEqual(self.root.cells(1), [("n", 0, 50)])
        self.root.flush()
        self.assertEqual(self.root.cells(1), [("n", 50, 0)])
        for _ in range(50):
            self.run_it("add", 1, lane="idle")
        self.assertIs(self.root.set_cell(1, "n", 0, "transition"), True)
        self.assertEqual((self.root.cells(1), lanes(self.root)), ([("n", 50, 50)], [2, 3]))

    def test_store(self):
        self.run_it("put", 5, lane="idle")
        self.assertEqual((self.root.store_values(), lanes(self.root)), ({"s": 5, "t": None}, [0]))
        self.assertEqual(self.root.html(), "000<p></p>")
        self.root.flush()
        self.assertEqual(self.root.html(), "050<p></p>")
        self.run_it("put", 5)
        self.assertEqual(lanes(self.root), [])
        self.run_it("put", True)
        self.assertEqual((self.root.store_values()["s"], lanes(self.root)), (True, [0]))

    def test_store_gives_the_present_pass_up(self):
        root = rooted(component("", "each x in range(8) { <Leaf x={x}/> }", stores="store s = 0;",
                                more="component Leaf(x) { view { {x} } }"), settled=False)
        root.work(4)
        self.assertEqual(root.schedule.done, 4)
        self.assertIs(root.set_store("s", 0), False)
        self.assertIs(root.set_store("u", 1), False)
        self.assertEqual(root.schedule.done, 4)
        self.assertIs(root.set_store("s", 1), True)
        self.assertEqual((root.schedule.done, root.pending), (0, [(0, 0), (1, 0)]))

    def test_retry(self):
        root = rooted(component("state n = 0;", "try { {1 / n} } catch f { <b on click={f.retry}>{f.message}</b> }"))
        self.assertEqual(root.error, "division by 0")
        root = rooted(component("state n = 0;", "try { <Leaf n={n}/> } catch f { <b on click={f.retry}>{f.message}</b> }",
                                more="component Leaf(n) { view { {1 / n} } }"))
        found = root.whole_tree()[0].kids[0]
        self.assertEqual((found.form, found.message, found.failed_at, found.tries.present), ("try", "division by 0", 0, [0, None]))
        self.assertEqual(root.html(), "<b>division by 0</b>")
        root.set_cell(1, "n", 1)
        root.flush()
        self.assertEqual(root.html(), "<b>division by 0</b>")
        self.assertEqual(root.event(root.ids_of_tag("b")[0], "click", {}), (True, False, []))
        self.assertEqual(root.pending, [(0, 0)])
        root.flush()
        found = root.whole_tree()[0].kids[0]
        self.assertEqual((root.html(), found.message, found.tries.present), ("1", None, [1, None]))
        # A try can be called like a component.
        self.assertEqual(root.run_handler(found.number, "retry", [1], "idle"), (True, False, None))
        self.assertEqual(root.pending, [(3, 0)])
        self.assertEqual(root.run_handler(found.number, "other", []), (False, False, None))

    def test_log(self):
        self.run_it("say", 1, [2])
        self.run_it("say", None)
        self.assertEqual(self.root.log_lines(), [[1, [2]], [None, None]])
        self.assertEqual(self.root.take_log(), [[1, [2]], [None, None]])
        self.assertEqual((self.root.log_lines(), self.root.take_log()), ([], []))

    def test_200_lines_of_the_log(self):
        for index in range(203):
            self.run_it("say", index)
            self.assertEqual(len(self.root.log_lines()), min(index + 1, 200))
        self.assertEqual(self.root.log_lines()[-1], [199, None])
        self.assertEqual(len(self.root.take_log()), 200)
        self.run_it("say", "again")
        self.assertEqual(self.root.log_lines(), [["again", None]])

    def test_timer(self):
        self.run_it("wait", 30)
        self.root.advance(4)
        self.run_it("tick")
        self.assertEqual(self.root.running_timers(), [(2, 9, 5), (1, 30, 0)])
        for _ in range(30):
            self.run_it("wait", 100)
        self.assertEqual(len(self.root.running_timers()), 20)

    def test_stop_and_prevent(self):
        before = asked(self.root, False)
        self.assertEqual(self.run_it("end"), (True, True, None))
        self.assertEqual(asked(self.root, False), before)

    def test_order_and_faults(self):
        self.assertEqual(self.run_it("both"), (True, False, None))
        self.assertEqual((self.root.cells(1), lanes(self.root)), ([("n", 0, 2)], [0, 1, 2]))
        self.root.flush()
        self.assertEqual(self.root.html(), "270<p></p>")
        self.assertEqual(self.run_it("bad"), (True, False, "division by 0"))
        self.assertEqual((self.root.log_lines(), self.root.cells(1)), ([[1]], [("n", 2, 1)]))

    def test_unknown_handlers(self):
        for number, name in [(1, "none"), (1, "retry"), (2, "add"), (0, "add"), (99, "add"), (first_of(self.root, "Leaf"), "add"),
                             (first_of(self.root, "p"), "add")]:
            self.assertEqual(self.root.run_handler(number, name, []), (False, False, None))
        self.assertEqual(self.root.pending, [])
        with self.assertRaises(UnknownLane):
            self.root.run_handler(99, "none", [], "fast")

    def test_what_is_no_component_has_no_handler(self):
        # The context has the name of a component.
        root = rooted(component("", 'provide Leaf = 1 { <p/> } <Leaf/>',
                                more="component Leaf() { context Leaf; handler go() { log(1); } view {} }"))
        provide = root.whole_tree()[0].kids[0]
        self.assertEqual((provide.form, provide.name), ("provide", "Leaf"))
        self.assertEqual(root.run_handler(provide.number, "go", []), (False, False, None))
        self.assertEqual(root.log_lines(), [])

    def test_set_cell(self):
        self.assertIs(self.root.set_cell(1, "n", [1, {"a": None}], "idle"), True)
        self.assertEqual(self.root.pending, [(3, 0)])
        for number, name in [(1, "m"), (2, "n"), (0, "n"), (99, "n"), (1, "s"), (first_of(self.root, "p"), "n")]:
            self.assertIs(self.root.set_cell(number, name, 1), False)
        self.assertEqual(self.root.pending, [(3, 0)])
        for number, name in [(1, "n"), (99, "n")]:
            with self.assertRaises(UnknownLane):
                self.root.set_cell(number, name, 1, "Sync")
        self.assertIs(self.root.set_cell(1, "n", "text", "sync"), True)
        self.root.flush()
        self.assertEqual(self.root.cells(1), [("n", "text", 0)])

    def test_cells_of_any_name_get_any_value(self):
        root = rooted(component("state value = 0; state value1 = 1; state n = 2; state n1 = 3;", "{1}"))
        act = ("act", 1, "h", [[1]])
        for name, value in [("value", [1]), ("value1", "x"), ("n", act), ("n1", {"n": 1}), ("n", None), ("n", "n")]:
            self.assertIs(root.set_cell(1, name, value), True)
            root.flush()
            self.assertEqual(dict([pair[:2] for pair in root.cells(1)])[name], value)

    def test_set_values(self):
        root = rooted(PLAIN, {"a": 1, "b": 2})
        root.advance(3)
        self.assertIsNone(root.set_values({"a": 5, "b": "x"}, "idle"))
        self.assertEqual((root.pending, root.html()), ([(3, 3)], "<p>12</p>"))
        root.flush()
        self.assertEqual(root.html(), "<p>1x</p>")
        root.set_values({"a": 5, "b": "x"})
        self.assertEqual(root.pending, [(1, 3)])
        root.flush()
        self.assertEqual((root.commits, root.rendered_ids(), root.last_operations()), (3, [], []))
        root.set_values({})
        root.flush()
        self.assertEqual(root.html(), "<p>1</p>")
        with self.assertRaises(UnknownParameter) as caught:
            root.set_values({"a": 1, "n": 1, "z": 1})
        self.assertEqual(caught.exception.name, "n")
        with self.assertRaises(UnknownLane):
            root.set_values({"n": 1}, "none")
        self.assertEqual(root.pending, [])


class Standing(unittest.TestCase):
    def test_what_was_passed_may_be_changed(self):
        program = parse_program(component(
            "state n = a; resource r = a; handler h(x) { n = x; s = x; log(x); after 1 { log(x); } }",
            "<p on go={do h([1])}>{text(length(n))}</p> <Leaf v={a}/> {length(r)}", "a",
            "store s = [0];", "component Leaf(v) { view { {length(v)} } }"))
        values, answers = {"a": [1]}, [([1], ("value", [5])), ([1, 2], ("value", [6]))]
        root = Root(program, "Main", values, answers=answers)
        values["a"].append(2)
        values["b"] = 1
        answers[0][1][1].append(3)
        answers.clear()
        root.flush()
        self.assertEqual(root.html(), "<p>1</p>11")
        given, key, value, details = [1, 2], [7], {"x": [1]}, {"k": [1]}
        root.run_handler(1, "h", [given])
        root.set_store("s", given)
        root.set_cell(1, "n", given)
        given.append(3)
        root.answer(key, value)
        key.append(8)
        value["x"].append(2)
        more = {"a": [1, 2]}
        root.set_values(more)
        more["a"].clear()
        root.event(root.ids_of_tag("p")[0], "go", details)
        details["k"].append(2)
        root.advance(1)
        root.flush()
        self.assertEqual(root.store_values(), {"s": [1]})
        self.assertEqual(root.log_lines(), [[[1, 2]], [[1]], [[1, 2]], [[1]]])
        self.assertEqual(root.html(), "<p>1</p>21")
        with self.assertRaises(AnswerGiven):
            root.answer([7], 1)
        self.assertIs(root.set_store("s", [1]), False)

    def test_answers_that_were_passed_may_be_changed(self):
        root = rooted(component("resource r = [1];", "{length(r)}"))
        key, value = [1], [1, 2]
        root.answer(key, value)
        key.append(2)
        value.append(3)
        root.flush()
        self.assertEqual(root.html(), "2")

    def test_stores_that_were_passed_may_be_changed(self):
        root = rooted(PLAIN)
        given = [[1]]
        self.assertIs(root.set_store("s", given), True)
        given[0].append(2)
        self.assertEqual(root.store_values()["s"], [[1]])
        self.assertIs(root.set_store("s", [[1]]), False)

    def test_nothing_that_is_passed_is_changed(self):
        source = component("state n = a; handler h(x) { n = x; s = x; log(x, event); }", "<p on go={do h([1])}>{1}</p>",
                           "a", "store s = [0];")
        program = parse_program(source)
        values, given, details = {"a": [1]}, [[1, 2]], {"event": 1, "z": [1]}
        kept = copy.deepcopy((program, values, given, details))
        root = Root(program, "Main", values)
        root.flush()
        root.run_handler(1, "h", given)
        root.event(2, "go", details)
        root.set_values(values)
        root.set_store("s", given)
        root.flush()
        root.replace(program)
        root.unmount()
        self.assertEqual((program, values, given, details), kept)

    def test_what_is_returned_may_be_changed(self):
        source = component(
            "state n = [1]; resource r = [2]; handler h(x) { log(x); after 5 { log(1); } stop; } effect [n] { log(n); }",
            'await { <Asker/> } else { <p a="1" on go={do h([3])}>{length(n)}</p> } <input default="x"/>'
            ' <B><b/></B>', "a", "store s = [0];",
            "component Asker() { resource r = [9]; view {} } component B() { view { slot } }")
        root = rooted(source, {"a": [1]}, [([2], ("value", [3]))])
        root.run_handler(1, "h", [[1]])
        root.set_cell(1, "n", [1, 2], "idle")
        before = asked(root)
        program = copy.deepcopy(root.program)
        for found in (root.last_operations(), root.open_keys(), root.log_lines(), root.rendered_ids(), root.why(),
                      root.running_timers(), root.pending, root.ids_of_tag("p"), root.cells(1)):
            self.assertIsInstance(found, list)
            self.assertGreater(len(found), 0)
            for part in found:
                if isinstance(part, list):
                    part.append("changed")
            found.append("changed")
            del found[0]
        root.open_keys()[0].append(1)
        root.log_lines()[0][0].append(1)
        root.why()[0][2].append("changed")
        root.cells(1)[0][1].append(1)
        stores = root.store_values()
        stores["s"].append(1)
        stores["t"] = 1
        controls = root.controls
        controls.show(root.ids_of_tag("input")[0], "changed")
        controls.settle(())
        tree = root.whole_tree()
        self.assertFalse(shares(tree, (root.tree, root.program)))
        tree[0].kids.clear()
        tree[0].cells[0].send(0, ("number", 1), {})
        tree[0].runs.clear()
        tree.clear()
        self.assertEqual(asked(root), before)
        self.assertEqual(root.program, program)

    def test_the_recording_and_the_log(self):
        root = rooted(DEEDS)
        root.recording().append("bad")
        self.assertEqual(root.recording(), ['["root","Main",{}]', '["flush"]'])
        root.run_handler(1, "say", [[1], {"a": 1}])
        lines = root.take_log()
        lines[0][0].append(2)
        lines.append(1)
        root.run_handler(1, "say", [[1], {"a": 1}])
        self.assertEqual(root.take_log(), [[[1], {"a": 1}]])

    def test_the_tree_is_its_own(self):
        root = rooted(DEEDS)
        self.assertEqual(told(root.whole_tree()), told(root.whole_tree()))
        self.assertFalse(shares(root.whole_tree(), root.whole_tree()))
