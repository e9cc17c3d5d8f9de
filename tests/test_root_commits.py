"""Passes of a root, commits, and roots that fail ([76] to [78])."""

import unittest

from tests.roots import Watch, asked, component, first_of, in_short, lanes, rooted
from viewloom.passes.instances import walk
from viewloom.root.replaying import replay
from viewloom.words.reading import parse_program

ASKING = component(
    "state k = a; state n = 0;", 'await { <Asker k={k}/> } else { "wait" {n} } {n}', "a",
    more='component Asker(k) { resource r = "key " + k; view { <p>{r}</p> } }'
)


def instance(root, number):
    return [one for one in walk(root.whole_tree()) if one.number == number][0]


class Passes(unittest.TestCase):
    def test_what_waits_at_the_top(self):
        root = rooted(component("resource r = {id: a};", "{r}", "a"), {"a": [1]})
        self.assertEqual((root.is_held, root.pending, root.open_keys(), root.commits, root.document),
                         (True, [], [{"id": [1]}], 0, ()))
        self.assertEqual((root.rendered_ids(), root.whole_tree(), root.error), ([1], [], None))
        self.assertEqual(root.flush(), (True, 0))
        root.set_values({"a": [1]}, "idle")
        root.set_values({"a": [1]}, "sync")
        self.assertEqual(root.flush(), (True, 0))
        self.assertEqual((root.open_keys(), root.is_held), ([{"id": [1]}], True))
        self.assertIs(root.answer({"id": [1]}, "yes"), True)
        # All lanes that were held are woken.
        self.assertEqual((root.is_held, root.pending, root.open_keys()), (False, [(0, 0), (1, 0), (3, 0)], []))
        self.assertEqual(root.flush(), (True, 3))
        self.assertEqual((root.html(), in_short(root)), ("yes", "1Main[2'yes']"))

    def test_what_waits_in_an_await(self):
        root = rooted(ASKING, {"a": "x"})
        self.assertEqual((root.html(), root.open_keys(), root.is_held, root.commits), ("wait00", ["key x"], False, 1))
        self.assertEqual(root.flush(), (True, 0))

    def ready(self):
        root = rooted(ASKING, {"a": "x"})
        root.answer("key x", "X")
        root.flush()
        self.assertEqual(root.html(), "<p>X</p>0")
        return root

    def test_what_holds(self):
        root = self.ready()
        commits = root.commits
        root.set_cell(1, "k", "y", "transition")
        self.assertEqual(root.flush(), (True, 0))
        self.assertEqual((root.html(), root.is_held, root.open_keys(), root.pending), ("<p>X</p>0", True, ["key y"], []))
        self.assertEqual(root.cells(1), [("k", "x", 1), ("n", 0, 0)])
        # A commit wakes what is held, and holds nothing any more.
        root.advance(5)
        root.set_cell(1, "n", 1, "sync")
        self.assertEqual(root.work(0), (True, 1))
        self.assertEqual((root.html(), root.is_held, root.pending), ("<p>X</p>1", False, [(2, 5)]))
        self.assertEqual(root.flush(), (True, 0))
        self.assertEqual((root.is_held, root.commits), (True, commits + 1))
        root.answer("key y", "Y")
        self.assertEqual((root.is_held, lanes(root)), (False, [2]))
        root.flush()
        self.assertEqual((root.html(), root.cells(1)), ("<p>Y</p>1", [("k", "y", 0), ("n", 1, 0)]))

    def test_what_waits_again_shows_the_fallback(self):
        root = self.ready()
        root.set_cell(1, "k", "y", "usual")
        root.flush()
        self.assertEqual((root.html(), root.is_held, root.open_keys()), ("wait00", False, ["key y"]))
        # The kids stay in the tree.
        self.assertIn("X", in_short(root))
        root.answer("key y", "Y")
        self.assertEqual(lanes(root), [2])
        root.flush()
        self.assertEqual(root.html(), "<p>Y</p>0")

    def test_requests_join_each_once(self):
        root = rooted(component("", 'each x in ["a", "b", "a"] { await { <Asker k={x}/> } else {} } await { <Asker k="c"/> } else {}',
                                more="component Asker(k) { resource r = k; view {} }"))
        self.assertEqual(root.open_keys(), ["a", "b", "c"])
        root.set_values({})
        root.flush()
        self.assertEqual(root.open_keys(), ["a", "b", "c"])
        self.assertIs(root.answer("b", 1), True)
        self.assertEqual(root.open_keys(), ["a", "c"])
        self.assertIs(root.answer("d", 1), False)
        root.flush()
        self.assertEqual(root.open_keys(), ["a", "c"])

    def test_updates_of_what_is_hidden_do_not_wake(self):
        source = component("state k = a;", 'await { <Box/> <Asker k={k}/> } else { "wait" } <Box/>', "a",
                           more='component Asker(k) { resource r = k; view { {r} } }'
                                ' component Box() { state n = 0; view { {n} } }')
        root = rooted(source, {"a": "x"})
        root.answer("x", "X")
        root.flush()
        self.assertEqual(root.html(), "0X0")
        boxes = [one.number for one in walk(root.whole_tree()) if one.name == "Box"]
        root.set_cell(1, "k", "y")
        root.flush()
        self.assertEqual(root.html(), "wait0")
        for box in boxes:
            root.set_cell(box, "n", 5, "idle")
        self.assertEqual(lanes(root), [3])
        root.set_cell(1, "k", "y")
        self.assertEqual(root.work(1), (True, 1))
        # The idle lane is pending for what is shown.
        self.assertEqual(lanes(root), [3])
        self.assertEqual(root.flush(), (True, 1))
        self.assertEqual(root.html(), "wait5")
        # The update of what is hidden is open still, and its lane is not woken by a commit until it is shown.
        self.assertEqual([root.cells(box) for box in boxes], [[("n", 0, 1)], [("n", 5, 0)]])
        root.set_cell(1, "k", "y")
        root.flush()
        self.assertEqual(lanes(root), [])
        root.answer("y", "Y")
        self.assertEqual(root.work(9), (True, 2))
        self.assertEqual((root.html(), lanes(root)), ("5Y5", []))

    def test_trys_that_were_hidden(self):
        source = component("state k = a; state n = 0;", 'await { try { <Bad n={n}/> } catch f { "failed" } <Asker k={k}/> }'
                           ' else { "wait" }', "a", more="component Asker(k) { resource r = k; view { {r} } }"
                           " component Bad(n) { view { {1 / n} } }")
        root = rooted(source, {"a": "x"}, [("x", ("value", "X"))])
        root.set_cell(1, "k", "y")
        root.set_cell(1, "n", 1)
        root.flush()
        number = [one.number for one in walk(root.whole_tree()) if one.form == "try"][0]
        self.assertEqual(root.run_handler(number, "retry", [], "idle"), (True, False, None))
        root.flush()
        self.assertEqual((root.html(), root.pending), ("wait", []))
        root.answer("y", "Y")
        # When it is shown, the lane of its update is woken.
        root.work(9)
        self.assertEqual(root.html(), "1Y")
        self.assertEqual(root.pending, [])

    def test_a_commit_wakes_the_lanes_of_open_updates(self):
        root = self.ready()
        root.set_cell(1, "n", 4, "transition")
        root.set_cell(1, "k", "y", "transition")
        root.flush()
        self.assertEqual((root.is_held, lanes(root)), (True, []))
        root.set_store("none", 1)
        root.set_values({"a": "z"}, "idle")
        root.flush()
        self.assertEqual(root.is_held, True)

    def test_an_update_behind_one_of_another_lane(self):
        root = self.ready()
        for value, lane in [(1, "idle"), (2, "sync"), (3, "usual")]:
            root.set_cell(1, "n", value, lane)
        self.assertEqual(root.work(0), (True, 1))
        self.assertEqual((root.cells(1)[1], lanes(root)), (("n", 2, 2), [1, 3]))
        root.flush()
        self.assertEqual(root.cells(1)[1], ("n", 3, 0))

    def test_what_fails(self):
        root = self.ready()
        watch = Watch(self, root)
        number = root.ids_of_tag("p")[0]
        root.set_cell(1, "n", [])
        self.assertEqual(root.flush(), (True, 1))
        watch.look()
        self.assertEqual((root.error, root.document, root.whole_tree(), root.html()), ("not a text", (), [], ""))
        self.assertEqual(root.last_operations()[0], ("remove", 0, number))
        self.assertEqual((root.pending, root.is_held, root.why(), root.cells(1)), ([], False, [], None))
        self.assertEqual(root.flush(), (True, 0))
        self.assertEqual(root.error, "not a text")
        root.set_values({"a": "x"})
        self.assertEqual(root.flush(), (True, 1))
        watch.look()
        self.assertEqual((root.error, root.html()), (None, "<p>X</p>0"))
        # It is a new tree, whose ids go on.
        self.assertGreater(root.whole_tree()[0].number, number)

    def test_rendered_ids(self):
        root = self.ready()
        self.assertEqual(len(root.rendered_ids()), 1)
        root.set_cell(1, "n", 1)
        root.flush()
        self.assertEqual(root.rendered_ids(), [1, first_of(root, "Asker")])
        root.set_cell(1, "k", "z", "idle")
        root.flush()
        self.assertEqual((root.is_held, root.rendered_ids()), (True, [1, first_of(root, "Asker")]))
        root.set_cell(1, "n", [])
        root.flush()
        self.assertEqual(root.rendered_ids(), [1])

    def test_the_controls_are_settled(self):
        root = rooted(component("state v = 1;", '<input value={v}/> if v == 1 { <input default="d"/> }'))
        first, second = root.ids_of_tag("input")
        self.assertEqual([root.controls.shown(n) for n in (first, second)], ["1", "d"])
        root.set_cell(1, "v", 2)
        root.flush()
        self.assertEqual(([root.controls.shown(n) for n in (first, second)], len(root.controls)), (["2", None], 1))
        root.unmount()
        self.assertEqual(len(root.controls), 0)


EFFECTS = component(
    "state n = 0; state m = 0; state up = true; effect [n] { log(\"main\", n); } cleanup { log(\"no main\", n); }"
    " effect [] { log(\"once\"); } cleanup { log(\"never\", n, m); }",
    '<p><Leaf id="a" v={n}/></p> if up { <Box><Leaf id="b" v={m}/></Box> }', "",
    more='component Leaf(id, v) { effect [v] { log(id, v); } cleanup { log("no " + id, v); } view {} }'
         ' component Box() { effect [] { log("box"); } cleanup { log("no box"); } view { <Leaf id="c" v={1}/> slot } }'
)


class Effects(unittest.TestCase):
    def log(self, root):
        root.flush()
        return root.take_log()

    def test_order(self):
        root = rooted(EFFECTS)
        self.assertEqual(root.take_log(), [["a", 0], ["c", 1], ["b", 0], ["box"], ["main", 0], ["once"]])
        runs = [run[0] for one in walk(root.whole_tree()) for run in one.runs]
        self.assertEqual(sorted(runs), [1, 2, 3, 4, 5, 6])
        self.assertEqual(self.log(root), [])
        root.set_cell(1, "n", 1)
        # All cleans come ahead of all runs; each sees what its run saw.
        self.assertEqual(self.log(root), [["no a", 0], ["no main", 0], ["a", 1], ["main", 1]])
        self.assertEqual([run[0] for run in root.whole_tree()[0].runs], [8, 6])
        root.set_cell(1, "m", 5)
        self.assertEqual(self.log(root), [["no b", 0], ["b", 5]])
        root.set_cell(1, "n", 2)
        root.set_cell(1, "up", False)
        # What goes is cleaned up first.
        self.assertEqual(self.log(root), [["no c", 1], ["no b", 5], ["no box"], ["no a", 1], ["no main", 1], ["a", 2],
                                          ["main", 2]])
        root.unmount()
        # An effect that was not run again is cleaned up in the environment of its run.
        self.assertEqual(root.take_log(), [["no a", 2], ["no main", 2], ["never", 0, 0]])

    def test_runs_are_kept(self):
        root = rooted(component("state n = [1]; effect [n, 2] { n = [2]; }", ""))
        one = root.whole_tree()[0]
        self.assertEqual(one.runs, [(2, [[2], 2], {"n": [2]})])
        self.assertEqual((root.commits, root.cells(1)), (3, [("n", [2], 0)]))

    def test_deeds_of_a_step_are_done_before_the_next_one(self):
        root = rooted(component('let acts = {say: do say()}; handler say() { s = s + "!"; } effect [n] { s = "run"; }'
                                ' cleanup { s = "clean"; } effect [n] { t = s; } cleanup { t = s; }', "{n}", "n",
                                'store s = ""; store t = "";'), {"n": 1})
        # What a block sees of a store is what was there when its component was rendered.
        self.assertEqual(root.store_values(), {"s": "run", "t": ""})
        root.set_values({"n": 2})
        root.flush()
        self.assertEqual(root.store_values(), {"s": "run", "t": "run"})

    def test_handlers_and_acts_in_effects(self):
        root = rooted(component("let acts = {f: do own(7)}; handler own(x, y) { log(x, y, event); }"
                                " effect [] { call acts.f(8); }", ""))
        self.assertEqual(root.log_lines(), [[7, 8, None]])

    def test_faults_of_cleanups_join_the_log(self):
        root = rooted(component("state n = 0; effect [n] {} cleanup { s = n + 1; log(n); log(1 / 0); log(2); }", "", "",
                                "store s = 0;"))
        root.set_cell(1, "n", 1)
        root.flush()
        self.assertEqual((root.log_lines(), root.store_values(), root.error), ([[0], ["division by 0"]], {"s": 1}, None))
        root.unmount()
        self.assertEqual((root.log_lines(), root.store_values()),
                         ([[0], ["division by 0"], [1], ["division by 0"]], {"s": 2}))

    def test_timers_of_runs(self):
        root = rooted(component("state n = 0; handler h() { after 60 {} } effect [n] { after 50 { log(n); }"
                                " every 7 { n = n; } }", ""))
        self.assertEqual(root.running_timers(), [(2, 7, 7), (1, 50, 0)])
        root.run_handler(1, "h", [])
        root.advance(3)
        root.set_cell(1, "n", 1)
        root.flush()
        # Those of the run are ended, and its next run starts others.
        self.assertEqual(root.running_timers(), [(5, 10, 7), (4, 53, 0), (3, 60, 0)])

    def test_timers_of_cleanups_belong_to_no_run(self):
        root = rooted(component("state n = 0; state m = 0; effect [n] { log(n); } effect [m] {} cleanup { after 50 {} }", ""))
        root.set_cell(1, "m", 1)
        root.flush()
        self.assertEqual(root.running_timers(), [(1, 50, 0)])
        for value in (1, 2):
            root.set_cell(1, "n", value)
            root.flush()
        self.assertEqual(root.running_timers(), [(1, 50, 0)])

    def test_timers_of_owners_that_go(self):
        root = rooted(component("state up = true; handler h() { after 9 {} }", "if up { <Leaf/> }",
                                more="component Leaf() { handler h() { after 6 {} } effect [] { after 8 {} }"
                                     " cleanup { after 7 { log(1); } } view {} }"))
        root.run_handler(1, "h", [])
        root.run_handler(first_of(root, "Leaf"), "h", [])
        self.assertEqual([due for _, due, _ in root.running_timers()], [6, 8, 9])
        root.set_cell(1, "up", False)
        root.flush()
        self.assertEqual(root.running_timers(), [(2, 9, 0)])


FAULTS = component(
    "state n = 0; state m = 0;",
    'try { <A n={n} id="1"/> try { <A n={m} id="2"/> <A n={m} id="3"/> <p/> } catch g { "inner " {g.message} <A n={n} id="4"/> } }'
    ' catch f { "outer " {f.message} } <A n={0} id="5"/>',
    more='component A(n, id) { effect [n] { log(id, n); if n > 9 { log(text([n])); } } view { {id} } }'
)


class Faults(unittest.TestCase):
    def test_without_a_try(self):
        source = component("state n = 0; effect [n] { log(n); if n == 1 { log(1 / 0); } } cleanup { log(\"clean\", n); }"
                           " effect [n] { log(\"second\"); if n == 1 { log([] + 1); } }", "<p>{n}</p> <Leaf n={n}/>",
                           more='component Leaf(n) { effect [n] { log("leaf"); } cleanup { log("no leaf"); } view {} }')
        root = rooted(source)
        root.take_log()
        root.set_cell(1, "n", 1)
        # The commit counts, and so does the failure behind it.
        self.assertEqual(root.flush(), (True, 2))
        # All steps are done; the first message counts.
        self.assertEqual(root.take_log(), [["no leaf"], ["clean", 0], ["leaf"], [1], ["second"], ["no leaf"], ["clean", 1]])
        self.assertEqual((root.error, root.document, root.whole_tree(), root.pending), ("division by 0", (), [], []))
        self.assertEqual(root.last_operations(), [("remove", 0, 2)])
        self.assertEqual(root.why(), [])
        root.set_values({})
        root.flush()
        self.assertEqual((root.error, root.html()), (None, "<p>0</p>"))

    def test_with_a_try(self):
        root = rooted(FAULTS)
        self.assertEqual((root.html(), root.error), ("123<p></p>5", None))
        commits = root.commits
        root.set_cell(1, "m", 10, "sync")
        self.assertEqual(root.work(0), (True, 2))
        # The nearest try shows its other nodes; of two messages the last one counts.
        self.assertEqual((root.html(), root.commits), ("1inner not a text45", commits + 2))
        failed = [one for one in walk(root.whole_tree()) if one.form == "try" and one.message is not None]
        self.assertEqual([(one.tries.present, one.tries.queue) for one in failed], [([0, "not a text"], [])])
        # What stands in the failed try is sent to the next one around it.
        root.take_log()
        root.set_cell(1, "n", 11)
        root.flush()
        self.assertEqual(root.html(), "outer not a text5")
        self.assertEqual(root.take_log(), [["1", 11], ["4", 11]])
        self.assertEqual(root.error, None)

    def test_what_stands_in_a_failed_try(self):
        root = rooted(component("state n = 0;", "try { try { <Bad/> } catch g { <A n={n}/> } } catch f { {f.message} }",
                                more="component Bad() { view { {1 / 0} } }"
                                     " component A(n) { effect [n] { log([0][n]); } view { {n} } }"))
        self.assertEqual(root.html(), "0")
        root.set_cell(1, "n", 1)
        root.flush()
        self.assertEqual((root.html(), root.error), ("nothing there", None))

    def test_several_messages_to_one_try(self):
        root = rooted(component("state n = 0;", "try { <A n={n}/> <B n={n}/> } catch f { {f.message} }",
                                more="component A(n) { effect [n] { log(1 / (1 - n)); } view { {n} } }"
                                     " component B(n) { effect [n] { log([0][n]); } view { {n} } }"))
        self.assertEqual(root.html(), "00")
        root.set_cell(1, "n", 1, "sync")
        self.assertEqual(root.work(0), (True, 2))
        self.assertEqual(root.html(), "nothing there")

    def test_a_try_is_told_in_the_lane_sync(self):
        root = rooted(FAULTS, settled=False)
        root.flush()
        root.set_cell(1, "m", 10, "idle")
        self.assertEqual(root.flush(), (True, 2))
        root = rooted(component("", "try { <A/> } catch f { {f.message} }",
                                more="component A() { effect [] { log(1 / 0); } view { \"a\" } }"), settled=False)
        self.assertEqual(root.work(2), (True, 2))
        self.assertEqual(root.html(), "division by 0")

    def test_the_number_of_tries_is_kept(self):
        root = rooted(component("state n = 0;", "try { <A n={n}/> } catch f { <b on click={f.retry}>{f.message}</b> }",
                                more="component A(n) { effect [n] { log(1 / n); } view { {n} } }"))
        for number in range(3):
            self.assertEqual(root.html(), "<b>division by 0</b>")
            one = [part for part in walk(root.whole_tree()) if part.form == "try"][0]
            self.assertEqual((one.tries.present, one.failed_at), ([number, "division by 0"], number))
            root.click(root.ids_of_tag("b")[0])
        root.set_cell(1, "n", 1)
        root.flush()
        root.click(root.ids_of_tag("b")[0])
        self.assertEqual(root.html(), "1")

    def test_the_second_component_fails_outside(self):
        root = rooted(component("", "try { <A/> } catch f { {f.message} } <A/>",
                                more="component A() { effect [] { log(1 / 0); } view { \"a\" } }"))
        self.assertEqual((root.error, root.html(), root.commits), ("division by 0", "", 2))


def long_fault(length, name="B"):
    """The source of a component whose effect fails with a message of a length, at least 10, if a is 1."""
    return (f"component {name}(a) {{ state s = {{}}; effect [a] {{ if a == 1 {{ log(s.{'x' * (length - 9)}); }} }}"
            f' view {{ "fine" }} }}')


def long_message(length):
    return "no field " + "x" * (length - 9)


class LongMessages(unittest.TestCase):
    """The message of an effect reaches the try around it, however long it is ([47], [77])."""

    VIEW = "<div>try { <B a={a}/> } catch e { <b on click={e.retry}/> {e.message} }</div>"

    def failed(self, length):
        return rooted(component("state a = 1;", self.VIEW, more=long_fault(length)))

    def tried(self, root):
        """The try of a root."""
        return [one for one in walk(root.whole_tree()) if one.form == "try"][0]

    def check(self, root, message, number=0):
        self.assertEqual((root.error, root.html()), (None, f"<div><b></b>{message}</div>"))
        tried = self.tried(root)
        self.assertEqual((tried.message, tried.failed_at, tried.tries.present), (message, number, [number, message]))
        self.assertEqual(tried.tries.queue, [])

    def test_lengths(self):
        # A list that an expression makes of a number and a text has the size of the text and 3 more.
        for length in [10, 1996, 1997, 1998, 1999, 2000, 2001, 4001, 18000]:
            with self.subTest(length=length):
                root = self.failed(length)
                self.check(root, long_message(length))
                self.assertEqual((root.log_lines(), root.pending, root.commits), ([], [], 2))

    def test_trying_again(self):
        for length in (12, 1997, 1998, 5000):
            root = self.failed(length)
            for number in range(1, 4):
                root.click(root.ids_of_tag("b")[0])
                self.check(root, long_message(length), number)
            root.set_cell(1, "a", 0)
            root.flush()
            self.check(root, long_message(length), 3)
            root.click(root.ids_of_tag("b")[0])
            self.assertEqual((root.html(), self.tried(root).tries.present), ("<div>fine</div>", [4, None]))

    def test_what_is_tried_later(self):
        # What was sent ahead of the message counts ahead of it, once its lane is done.
        for length in (12, 5000):
            for many in (0, 1, 2, 49):
                root = self.failed(length)
                root.set_cell(1, "a", 0)
                root.flush()
                root.click(root.ids_of_tag("b")[0])
                number = self.tried(root).number
                for _ in range(many):
                    root.run_handler(number, "retry", [], "idle")
                root.set_cell(1, "a", 1, "sync")
                root.work(0)
                tried = self.tried(root)
                self.assertEqual((tried.tries.present, tried.tries.waiting), ([1, long_message(length)], many))
                self.assertEqual(root.html(), f"<div><b></b>{long_message(length)}</div>")
                root.flush()
                self.check(root, long_message(length), many + 1)

    def test_a_full_queue(self):
        root = self.failed(5000)
        root.set_cell(1, "a", 0)
        root.flush()
        root.click(root.ids_of_tag("b")[0])
        for _ in range(50):
            root.run_handler(self.tried(root).number, "retry", [], "idle")
        root.set_cell(1, "a", 1, "sync")
        root.flush()
        # The message was dropped.
        self.assertEqual((root.html(), root.error), ("<div>fine</div>", None))
        self.assertEqual(self.tried(root).tries.present, [51, None])

    def test_several_messages(self):
        view = "<div>try { <B a={a}/> <C a={a}/> } catch e { <b on click={e.retry}/> {e.message} }</div>"
        for first, second in [(5000, 3000), (5000, 10), (10, 5000)]:
            root = rooted(component("state a = 1;", view, more=long_fault(first) + long_fault(second, "C")))
            self.check(root, long_message(second))
            root.click(root.ids_of_tag("b")[0])
            self.check(root, long_message(second), 1)

    def test_the_try_around_it(self):
        view = 'try { try { <Bad/> } catch e { <B a={a}/> } } catch f { {length(f.message)} }'
        root = rooted(component("state a = 1;", view, more="component Bad() { view { {1 / 0} } }" + long_fault(5000)))
        self.assertEqual((root.html(), root.error), ("5000", None))

    def test_without_a_try(self):
        root = rooted(component("", "<B a={1}/>", more=long_fault(5000)))
        self.assertEqual((root.error, root.document), (long_message(5000), ()))

    def test_lists_that_expressions_make_of_it(self):
        # These are bounded as ever.
        view = "try { try { <B a={1}/> } catch e { {length([e.message])} } } catch f { {f.message} }"
        for length, shown in [(1998, "1"), (1999, "too large")]:
            self.assertEqual(rooted(component("", view, more=long_fault(length))).html(), shown)

    def test_another_program_and_a_recording(self):
        root = self.failed(5000)
        again = replay(root.program, root.recording())
        self.check(again, long_message(5000))
        self.assertIs(root.replace(parse_program(component("state a = 1;", self.VIEW, more=long_fault(10)))), True)
        root.flush()
        self.check(root, long_message(5000))
        root.click(root.ids_of_tag("b")[0])
        self.check(root, long_message(10), 1)


class Ending(unittest.TestCase):
    SOURCE = component(
        'state n = 1; let acts = {f: do h()}; handler h() { log("called"); n = 5; }'
        ' effect [n] { after 5 {} } cleanup { log("bye", n); s = n + s2; n = 7; call acts.f(); after 3 {} log(1 / 0); log(2); }',
        '<p><input default="x"/></p> <Leaf/>', "s2", "store s = 0;",
        'component Leaf() { effect [] {} cleanup { log("leaf"); later { s = "leaf"; } } view {} }'
    )

    def test_unmount(self):
        root = rooted(self.SOURCE, {"s2": 1})
        root.set_cell(1, "n", 2, "idle")
        self.assertEqual(len(root.running_timers()), 1)
        commits = root.commits
        self.assertIsNone(root.unmount())
        # An act that is called over no tree does nothing.
        self.assertEqual(root.log_lines(), [["leaf"], ["bye", 1], ["division by 0"]])
        self.assertEqual(root.store_values(), {"s": 2})
        self.assertEqual((root.error, root.document, root.whole_tree(), root.pending, root.running_timers(), root.is_held),
                         (None, (), [], [], [], False))
        self.assertEqual((root.commits, root.last_operations(), len(root.controls)),
                         (commits + 1, [("remove", 0, 2)], 0))
        self.assertEqual(root.flush(), (True, 0))
        root.unmount()
        self.assertEqual((root.commits, root.last_operations(), root.log_lines()[3:]), (commits + 2, [], []))
        root.set_store("s", 9)
        root.flush()
        self.assertEqual(root.html(), '<p><input default="x"></input></p>')
        # No number was used for the timer of a cleanup.
        self.assertEqual([number for number, _, _ in root.running_timers()], [2])

    def test_unmount_while_something_is_held(self):
        root = rooted(component("resource r = 1;", ""))
        self.assertIs(root.is_held, True)
        root.unmount()
        self.assertEqual((root.is_held, root.pending, root.open_keys(), root.commits), (False, [], [1], 1))
        root.answer(1, 1)
        self.assertEqual(root.pending, [])

    def test_no_timer_runs_any_more(self):
        for end in (lambda root: root.unmount(), lambda root: (root.set_cell(1, "n", 0), root.flush())):
            root = rooted(component("state n = 1; handler go() { every 5 { log(1); } }", "{1 / n}"))
            root.run_handler(1, "go", [])
            self.assertEqual(len(root.running_timers()), 1)
            end(root)
            self.assertEqual((root.running_timers(), root.advance(50), root.log_lines()), ([], 50, []))

    def test_a_first_pass_that_fails(self):
        root = rooted(component("", "{1 / a}", "a"), {"a": 0})
        self.assertEqual((root.error, root.commits, root.last_operations(), root.pending), ("division by 0", 1, [], []))
        before = asked(root)
        self.assertEqual(root.work(0), (True, 0))
        self.assertEqual(asked(root, False), before.replace(repr(root.recording()[:-1]), "None"))
        root.set_values({"a": 1})
        root.flush()
        self.assertEqual((root.error, root.html(), in_short(root)), (None, "1", "1Main[2'1']"))

    def test_errors_are_over_with_the_next_commit(self):
        root = rooted(component("", "{1 / a}", "a"), {"a": 0})
        root.set_values({"a": []})
        self.assertEqual(root.error, "division by 0")
        root.flush()
        self.assertEqual(root.error, "not a number")
        root.unmount()
        self.assertIsNone(root.error)
