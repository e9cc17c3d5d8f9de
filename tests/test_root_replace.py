"""Another program ([83], with [73])."""

import unittest

from tests.roots import asked, component, first_of, in_short, lanes, rooted
from viewloom.checks.checking import Checker
from viewloom.errors import UnknownComponent, ViewError
from viewloom.passes.instances import walk
from viewloom.words.reading import parse_program

PARTS = ('component Box(x) { state n = 1; view { <b>{n} {x}</b> } } component Leaf() { state m = 2; view { {m} } }')
FIRST = component("state k = 0;", '<p>{k} {a} {s}</p> <Box x={k}/> <Leaf/> <input default="d"/>', "a, b",
                  "store s = 1; store t = [1];", PARTS)


def parsed(source):
    program = parse_program(source)
    Checker(program).check()
    return program


def runs_of(root):
    return [(one.name, [run and run[0] for run in one.runs]) for one in walk(root.whole_tree()) if one.form == "component"]


class Replacing(unittest.TestCase):
    def setUp(self):
        self.root = rooted(FIRST, {"a": 5, "b": 6})
        self.root.set_cell(1, "k", 7)
        self.root.set_cell(first_of(self.root, "Box"), "n", 8)
        self.root.set_cell(first_of(self.root, "Leaf"), "m", 9)
        self.root.set_store("s", 3)
        self.root.flush()
        self.assertEqual(self.root.html(), '<p>753</p><b>87</b>9<input default="d"></input>')

    def replaced(self, source, answer=True):
        self.assertIs(self.root.replace(parsed(source)), answer)
        return self.root.html()

    def test_all_fit(self):
        tree, commits = in_short(self.root), self.root.commits
        field = self.root.ids_of_tag("input")[0]
        self.root.enter(field, "x")
        self.assertEqual(self.replaced(FIRST.replace("<b>", "<b>\"new \"")), '<p>753</p><b>new 87</b>9<input default="d"></input>')
        self.assertEqual((self.root.commits, self.root.pending, self.root.error), (commits + 1, [], None))
        # What is described is matched, so that ids stay but of what is new.
        self.assertEqual(in_short(self.root).replace("13'new '", "8'8'").count("'"), tree.count("'") + 2)
        self.assertEqual(self.root.ids_of_tag("input"), [field])
        self.assertEqual(self.root.controls.shown(field), "dx")
        self.assertEqual([op[0] for op in self.root.last_operations()], ["text", "text", "insert"])

    def test_no_component_is_left_out(self):
        self.replaced(FIRST)
        self.assertEqual(len(self.root.rendered_ids()), 3)
        self.assertEqual((self.root.last_operations(), self.root.why()), ([], []))
        self.root.set_values({"a": 5, "b": 6})
        self.root.flush()
        self.assertEqual(self.root.rendered_ids(), [])

    def test_some_fit(self):
        box = first_of(self.root, "Box")
        source = FIRST.replace("state n = 1;", "state n = 1; state o = 0;")
        self.assertEqual(self.replaced(source), '<p>753</p><b>17</b>9<input default="d"></input>')
        self.assertNotEqual(first_of(self.root, "Box"), box)
        self.assertEqual(self.root.why(), [(first_of(self.root, "Box"), "Box", ["new"])])
        self.assertEqual([op[0] for op in self.root.last_operations()], ["remove", "insert"])

    def test_none_fits(self):
        source = component("state j = 4;", '<p>{j} {a}</p> <Box x={j}/>', "a", "store s = 1;", PARTS)
        self.assertEqual(self.replaced(source), "<p>45</p><b>14</b>")
        self.assertGreater(self.root.whole_tree()[0].number, 1)
        self.assertEqual(len([op for op in self.root.last_operations() if op[0] == "remove"]), 4)

    def test_parameters_and_stores(self):
        source = component("state k = 0; ", "<p>{k} {b} {c} {s} {u}</p>", "c, b", "store u = 10; store s = 20;")
        self.assertEqual(self.replaced(source), "<p>76310</p>")
        self.assertEqual(list(self.root.store_values().items()), [("u", 10), ("s", 3)])
        self.assertIs(self.root.set_store("t", 1), False)
        self.root.set_values({"c": 1, "b": 2})
        self.root.flush()
        self.assertEqual(self.root.html(), "<p>721310</p>")
        self.assertEqual(self.replaced(component("state k = 0;", "{a}", "a")), "")

    def test_parameters_that_were_dropped_do_not_come_again(self):
        self.replaced(component("state k = 0;", "{b}", "b"))
        self.assertEqual(self.replaced(component("state k = 0;", "{a} {b}", "a, b")), "6")

    def test_no_timer_runs(self):
        source = component("handler go() { every 5 { log(1); } }", "")
        root = rooted(source)
        root.run_handler(1, "go", [])
        self.assertEqual(len(root.running_timers()), 1)
        self.assertIs(root.replace(parsed(source)), True)
        self.assertEqual(root.running_timers(), [])
        root.run_handler(1, "go", [])
        self.assertEqual(root.running_timers(), [(2, 5, 5)])

    def test_unknown_component(self):
        before = asked(self.root)
        with self.assertRaises(UnknownComponent) as caught:
            self.root.replace(parsed("component Other() { view {} }"))
        self.assertEqual(caught.exception.name, "Main")
        self.assertIsInstance(caught.exception, ViewError)
        self.assertEqual(asked(self.root), before)

    def test_one_that_waits(self):
        self.root.set_cell(1, "k", 1, "idle")
        before = asked(self.root)
        self.replaced(FIRST.replace("<b>", "").replace("</b>", "").replace("state n = 1;", 'state n = 1; resource r = "k";'), False)
        self.assertEqual(asked(self.root), before)
        self.assertIsNotNone(self.root.recording())
        self.assertEqual(self.root.open_keys(), [])
        self.root.flush()
        self.assertEqual(self.root.html(), '<p>153</p><b>81</b>9<input default="d"></input>')

    def test_one_that_fails(self):
        self.root.set_cell(1, "k", 1, "idle")
        commits = self.root.commits
        self.assertEqual(self.replaced(FIRST.replace("<b>", "<b>{1 / 0}")), "")
        self.assertEqual((self.root.error, self.root.commits, self.root.pending), ("division by 0", commits + 1, []))
        self.assertEqual((self.root.whole_tree(), len(self.root.controls), self.root.recording()), ([], 0, None))
        self.assertEqual([op[0] for op in self.root.last_operations()], ["remove"] * 4)
        self.assertEqual(self.root.store_values(), {"s": 3, "t": [1]})
        # It has the new program, by which it can be mended again.
        self.assertEqual(self.replaced(FIRST), '<p>053</p><b>10</b>2<input default="d"></input>')
        self.assertIsNone(self.root.error)

    def test_one_that_fails_in_a_run(self):
        self.assertEqual(self.replaced(FIRST.replace("state m = 2;", "state m = 2; effect [] { log(1 / 0); }")), "")
        self.assertEqual(self.root.error, "division by 0")

    def test_updates_that_are_pending(self):
        self.root.advance(3)
        self.root.set_cell(1, "k", 1, "idle")
        self.root.set_cell(first_of(self.root, "Leaf"), "m", 4, "transition")
        self.root.work(0)
        self.assertEqual(self.replaced(FIRST), '<p>153</p><b>81</b>4<input default="d"></input>')
        self.assertEqual(self.root.pending, [])
        self.assertEqual(self.root.cells(1), [("k", 1, 0)])

    def test_a_present_pass_is_given_up(self):
        self.root.set_cell(1, "k", 1)
        self.root.work(1)
        self.assertEqual(self.root.schedule.done, 1)
        self.replaced(FIRST)
        self.assertEqual((self.root.schedule.done, self.root.pending), (0, []))

    def test_requests_of_its_awaits(self):
        source = FIRST.replace("<input", 'await { <Asker/> } else { "wait" } <input')
        source += ' component Asker() { resource r = "k"; view { {r} } }'
        self.assertEqual(self.replaced(source), '<p>753</p><b>87</b>9wait<input default="d"></input>')
        self.assertEqual((self.root.open_keys(), self.root.is_held), (["k"], False))
        self.root.answer("k", "R")
        self.root.flush()
        self.assertEqual(self.root.html(), '<p>753</p><b>87</b>9R<input default="d"></input>')

    def test_answers_are_kept(self):
        self.root.answer("k", "R")
        self.assertEqual(self.replaced(FIRST.replace("state m = 2;", 'state m = 2; resource r = "k";').replace("{m}", "{r}")),
                         '<p>753</p><b>87</b>R<input default="d"></input>')

    def test_roots_that_show_nothing(self):
        root = rooted(FIRST, settled=False)
        self.assertIs(root.replace(parsed(FIRST.replace("{k}", "{k + 1}"))), True)
        self.assertEqual((root.html(), root.commits, root.pending), ('<p>11</p><b>11</b>2<input default="d"></input>', 1, []))
        root.unmount()
        self.assertIs(root.replace(parsed(FIRST)), True)
        self.assertEqual((root.html(), root.pending), ('<p>01</p><b>10</b>2<input default="d"></input>', []))

    def test_the_program_that_was_passed_stays(self):
        program = parsed(FIRST)
        self.root.replace(program)
        self.root.set_store("t", [2])
        self.root.flush()
        self.assertEqual(program, parsed(FIRST))

    def test_a_recording_ends(self):
        self.assertIsNotNone(self.root.recording())
        self.replaced(FIRST)
        self.assertIsNone(self.root.recording())
        self.root.flush()
        self.assertIsNone(self.root.recording())


class Held(unittest.TestCase):
    SOURCE = component("state k = a;", 'await { <Asker k={k}/> } else { "wait" } {k}', "a",
                       more="component Asker(k) { resource r = k; view { {r} } }")

    def test_held_lanes(self):
        root = rooted(self.SOURCE, {"a": "x"}, [("x", ("value", "X"))])
        root.set_cell(1, "k", "y", "transition")
        root.flush()
        self.assertEqual((root.html(), root.is_held), ("Xx", True))
        # The update of the held lane is done, in a pass that also has the lane sync and so does not hold.
        self.assertIs(root.replace(parsed(self.SOURCE)), True)
        self.assertEqual((root.html(), root.is_held, root.cells(1)), ("waity", False, [("k", "y", 0)]))
        # The commit wakes what was held.
        self.assertEqual(lanes(root), [2])
        self.assertEqual(root.flush(), (True, 1))

    def test_what_waits_at_the_top_stays_held(self):
        root = rooted(component('resource r = "k";', "{r}"))
        before = asked(root)
        self.assertIs(root.replace(root.program), False)
        self.assertEqual(asked(root), before)
        self.assertIs(root.replace(parsed(component("", '"plain"'))), True)
        self.assertEqual((root.html(), root.is_held, root.open_keys()), ("plain", False, ["k"]))

    def test_kids_of_an_await_that_waits(self):
        source = component(
            "state k = a;", 'await { <Box/> <Asker k={k}/> } else { "wait" }', "a",
            more="component Asker(k) { resource r = k; effect [k] { log(\"asker\", k); } cleanup { log(\"no asker\", k); } view { {r} } }"
                 " component Box() { state n = 0; effect [n] { log(\"box\", n); } cleanup { log(\"no box\", n); }"
                 " effect [] { log(\"second\"); } cleanup { log(\"no second\"); } view { {n} } }")
        now = source.replace('log("second")', 'log("SECOND")').replace('log("box", n)', 'log("BOX", n)')
        root = rooted(source, {"a": "x"}, [("x", ("value", "X"))])
        root.set_cell(1, "k", "y")
        root.flush()
        self.assertEqual((root.html(), root.take_log()), ("wait", [["box", 0], ["second"], ["asker", "x"]]))
        box = first_of(root, "Box")
        root.set_cell(box, "n", 5)
        hidden = [one for one in walk(root.whole_tree()) if one.number == box][0]
        self.assertIs(root.replace(parsed(now)), True)
        # They stay as they were, and their effects run by the new program.
        self.assertEqual(root.take_log(), [["no box", 0], ["no second"], ["no asker", "x"], ["BOX", 0], ["SECOND"],
                                           ["asker", "x"]])
        stays = [one for one in walk(root.whole_tree()) if one.number == box][0]
        self.assertEqual((stays.env, stays.cells, stays.described), (hidden.env, hidden.cells, hidden.described))
        self.assertEqual(runs_of(root), [("Main", []), ("Box", [4, 5]), ("Asker", [6])])
        root.answer("y", "Y")
        root.flush()
        # The update of the box waits for a commit that shows it.
        self.assertEqual((root.html(), root.take_log()),
                         ("5Y", [["no asker", "x"], ["asker", "y"], ["no box", 0], ["BOX", 5]]))

    def test_an_effect_that_the_new_program_has_not(self):
        source = component(
            "state k = a;", 'await { <Box/> <Asker k={k}/> } else { "wait" }', "a",
            more="component Asker(k) { resource r = k; view { {r} } }"
                 " component Box() { effect [] { log(\"a\"); } cleanup { log(\"no a\"); } effect [] { log(\"b\"); after 9 {} }"
                 " cleanup { log(\"no b\"); } view { \"box\" } }")
        root = rooted(source, {"a": "x"}, [("x", ("value", "X"))])
        root.set_cell(1, "k", "y")
        root.flush()
        root.take_log()
        now = source.replace(' effect [] { log("b"); after 9 {} } cleanup { log("no b"); }', "")
        self.assertIs(root.replace(parsed(now)), True)
        self.assertEqual((root.take_log(), runs_of(root)[1]), ([["no a"], ["no b"], ["a"]], ("Box", [3, 4])))
        self.assertEqual(root.running_timers(), [])
        root.set_cell(1, "k", "x")
        root.flush()
        self.assertEqual((root.html(), root.take_log(), runs_of(root)[1]), ("boxX", [], ("Box", [3])))
        # One more than before is not run until the component is rendered.
        root.set_cell(1, "k", "z")
        root.flush()
        self.assertIs(root.replace(parsed(source)), True)
        self.assertEqual((root.take_log(), runs_of(root)[1]), ([["no a"], ["a"]], ("Box", [5])))
        root.unmount()
        self.assertEqual(root.take_log(), [["no a"]])

    def test_hidden_kids_that_do_not_fit_the_new_names(self):
        source = component(
            "state k = a;", 'await { <Box/> <Asker k={k}/> } else { "wait" }', "a",
            more="component Asker(k) { resource r = k; view { {r} } } component Box() { view { <Gone x={1}/> } }"
                 " component Gone(x) { view { {x} } }")
        root = rooted(source, {"a": "x"}, [("x", ("value", "X"))])
        root.set_cell(1, "k", "y")
        root.flush()
        now = source.replace("view { <Gone x={1}/> }", 'effect [] { log(s); } view { "box" }')
        now = "store s = 1; " + now[:now.index("component Gone")]
        self.assertIs(root.replace(parsed(now)), True)
        self.assertEqual(root.html(), "wait")
        root.answer("y", "Y")
        self.assertEqual(root.flush()[0], True)


EFFECTS = component(
    "state n = 0; handler go(x) { log(\"handler\", x); }"
    " effect [n] { log(\"run\", n); every 5 {} } cleanup { log(\"clean\", n); s = s + 1; n = 9; log(1 / 0); }",
    "<Leaf/> {s} {t}", "", "store s = 0; store t = 0;",
    "component Leaf() { effect [] { log(\"leaf\"); } cleanup { log(\"no leaf\"); t = t + 1; } view {} }")


class Cleanups(unittest.TestCase):
    def test_effects_run_again(self):
        root = rooted(EFFECTS)
        root.run_handler(1, "go", [1])
        self.assertEqual((root.take_log(), len(root.running_timers())), ([["leaf"], ["run", 0], ["handler", 1]], 1))
        now = EFFECTS.replace('"run"', '"RUN"').replace('"clean"', '"CLEAN"').replace("store s = 0", "store s = 5")
        self.assertIs(root.replace(parsed(now)), True)
        # The old program cleans up, the new one runs.
        self.assertEqual(root.take_log(), [["no leaf"], ["clean", 0], ["division by 0"], ["leaf"], ["RUN", 0]])
        self.assertEqual((root.running_timers(), runs_of(root)), ([(2, 5, 5)], [("Main", [4]), ("Leaf", [3])]))
        # The cleanups have set stores, which the pass has not seen.
        self.assertEqual((root.html(), root.store_values(), lanes(root)), ("00", {"s": 1, "t": 1}, [0]))
        root.flush()
        self.assertEqual((root.html(), root.take_log()), ("11", []))
        root.unmount()
        self.assertEqual(root.take_log(), [["no leaf"], ["CLEAN", 0], ["division by 0"]])

    def test_stores_that_the_new_program_has_not(self):
        source = component("", '"x"', "", "store s = 0;", "component Leaf() { view {} }").replace("Main()", "Main()")
        root = rooted(EFFECTS)
        now = EFFECTS.replace("store t = 0;", "").replace("{t}", "").replace(" t = t + 1;", "").replace(" s = s + 1;", "")
        self.assertIs(root.replace(parsed(now)), True)
        self.assertEqual((root.store_values(), root.html(), lanes(root)), ({"s": 1}, "0", [0]))
        root = rooted(EFFECTS)
        self.assertIs(root.replace(parsed(source.replace("component Main() {", "component Main() { state n = 1;"))), True)
        self.assertEqual((root.store_values(), root.html(), lanes(root)), ({"s": 1}, "x", [0]))
        # A store that has the same value at the end has not another one.
        root = rooted(EFFECTS)
        plain = "component Main() { state n = 1; view { \"x\" } }"
        self.assertIs(root.replace(parsed(plain)), True)
        self.assertEqual((root.store_values(), lanes(root)), ({}, []))

    def test_a_program_that_fails_behind_cleanups(self):
        root = rooted(EFFECTS)
        root.take_log()
        commits = root.commits
        self.assertIs(root.replace(parsed(EFFECTS.replace("{s}", "{1 / s}"))), True)
        # The effects are cleaned up once, and the store that was set wakes the lane sync.
        self.assertEqual(root.take_log(), [["no leaf"], ["clean", 0], ["division by 0"]])
        self.assertEqual((root.error, root.commits, lanes(root)), ("division by 0", commits + 1, [0]))
        root.flush()
        self.assertEqual((root.html(), root.error, root.take_log()), ("11", None, [["leaf"], ["run", 0]]))

    def test_cleaning_up_is_over_no_tree(self):
        source = component("let acts = {f: do go()}; handler go() { log(\"called\"); }"
                           " effect [] {} cleanup { call acts.f(); after 5 {} later { s = 2; } }", "{s}", "", "store s = 0;")
        root = rooted(source)
        self.assertIs(root.replace(parsed(source)), True)
        self.assertEqual((root.log_lines(), root.running_timers(), root.store_values()), ([], [], {"s": 2}))

    def test_replaced_again_and_again(self):
        root = rooted(EFFECTS)
        for index in range(5):
            self.assertIs(root.replace(parsed(EFFECTS.replace("<Leaf/>", "<Leaf/>" if index % 2 else '"no"'))), True)
            root.flush()
        # Each cleanup sees the store as its run saw it: 0, 0, 1, 1 and 2.
        self.assertEqual((root.html(), root.store_values()), ("no33", {"s": 3, "t": 3}))
