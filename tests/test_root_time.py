"""Answers, parameters and time ([81], [82])."""

import unittest

from tests.roots import asked, component, first_of, lanes, rooted
from viewloom.errors import AnswerGiven, ViewError

ASKING = component("state k = a;", 'await { <Asker k={k}/> } else { "wait" }', "a",
                   more="component Asker(k) { resource r = k; view { {r} } }")


class Answers(unittest.TestCase):
    def test_an_await_that_waits(self):
        root = rooted(ASKING, {"a": "x"})
        root.advance(8)
        self.assertIs(root.answer("x", "X"), True)
        self.assertEqual((root.pending, root.open_keys(), root.html()), ([(2, 8)], [], "wait"))
        root.flush()
        self.assertEqual(root.html(), "X")

    def test_a_key_that_was_not_asked_for(self):
        root = rooted(ASKING, {"a": "x"})
        self.assertIs(root.answer("y", "Y"), False)
        self.assertEqual((root.pending, root.open_keys()), ([(2, 0)], ["x"]))
        root.flush()
        self.assertEqual(root.html(), "wait")
        # It has its answer when it is asked for.
        root.set_cell(1, "k", "y")
        root.flush()
        self.assertEqual((root.html(), root.open_keys()), ("Y", ["x"]))
        self.assertIs(root.answer("z", 1), False)
        # No await waits any more.
        self.assertEqual(root.pending, [])

    def test_held_keys(self):
        root = rooted(ASKING, {"a": "x"})
        root.answer("x", "X")
        root.flush()
        root.set_cell(1, "k", "y", "idle")
        root.flush()
        root.set_cell(1, "k", "z", "transition")
        root.flush()
        # Each pass has its own key; both are held.
        self.assertEqual((root.is_held, root.open_keys(), root.pending), (True, ["y", "z"], []))
        self.assertIs(root.answer("q", 1), False)
        self.assertEqual((root.is_held, root.pending), (True, []))
        self.assertIs(root.answer("y", "Y"), True)
        self.assertEqual((root.is_held, lanes(root)), (False, [2, 3]))
        root.flush()
        # The pass of the lane idle goes ahead without the update of the other one.
        self.assertEqual((root.html(), root.is_held, root.open_keys()), ("Y", True, ["z"]))
        root.answer("z", "Z")
        root.flush()
        self.assertEqual((root.html(), root.is_held), ("Z", False))

    def test_errors(self):
        root = rooted(component("", "try { <Asker/> } catch f { {f.message} }",
                                more='component Asker() { resource r = "k"; view { {r} } }'))
        self.assertIs(root.is_held, True)
        self.assertIs(root.fail("k", "no answer"), True)
        root.flush()
        self.assertEqual((root.html(), root.open_keys()), ("no answer", []))
        root = rooted(component('resource r = "k";', "{r}"))
        self.assertIs(root.fail("k", "gone"), True)
        root.flush()
        self.assertEqual((root.error, root.html()), ("gone", ""))

    def test_given_answers(self):
        root = rooted(ASKING, {"a": {"id": [1]}})
        root.answer({"id": [1]}, None)
        before = asked(root)
        for call in (lambda: root.answer({"id": [1]}, 2), lambda: root.fail({"id": [1]}, "x")):
            with self.assertRaises(AnswerGiven) as caught:
                call()
            self.assertIsInstance(caught.exception, ViewError)
            self.assertEqual(asked(root), before)
        root.flush()
        self.assertEqual(root.html(), "")
        # Values that are equal to Python are other keys.
        self.assertIs(root.answer({"id": [True]}, 2), False)
        self.assertIs(root.answer(1, 2), False)
        self.assertIs(root.answer(True, 2), False)
        with self.assertRaises(AnswerGiven):
            root.answer(1, 3)
        root = rooted(ASKING, {"a": "x"}, [("x", ("value", "X")), ("y", ("error", "E"))])
        for key in "xy":
            with self.assertRaises(AnswerGiven):
                root.answer(key, 1)
        self.assertEqual(root.html(), "X")

    def test_the_present_pass_is_given_up(self):
        root = rooted(ASKING, {"a": "x"}, settled=False)
        root.flush()
        root.set_cell(1, "k", "y")
        self.assertEqual(root.work(1), (True, 0))
        self.assertEqual(root.schedule.done, 1)
        root.answer("other", 1)
        self.assertEqual(root.schedule.done, 0)


class Parameters(unittest.TestCase):
    def test_other_parameters_give_the_present_pass_up(self):
        root = rooted(component("", "{a} <A/> <A/>", "a, b", more="component A() { view {} }"), {"a": 1}, settled=False)
        root.work(2)
        self.assertEqual(root.schedule.done, 2)
        root.set_values({"a": 1}, "idle")
        self.assertEqual((root.schedule.done, root.pending), (2, [(1, 0), (3, 0)]))
        root.set_values({"a": 2}, "idle")
        self.assertEqual((root.schedule.done, root.pending), (0, [(1, 0), (3, 0)]))
        root.work(3)
        self.assertEqual((root.html(), root.pending), ("2", [(3, 0)]))
        self.assertEqual(root.flush(), (True, 1))

    def test_values_that_are_equal_to_python(self):
        root = rooted(component("", "{a}", "a"), {"a": 1})
        root.set_values({"a": True})
        root.flush()
        self.assertEqual(root.html(), "true")


TIMING = component(
    'state n = 0; handler wait(t, x) { after t { log(x); n = n + 1; } } handler tick(t, x) { every t { log(x); } }'
    ' handler chain(t) { after t { log("one"); after t { log("two"); } } } handler bad(t) { after t { log(1); log(1 / 0); } }'
    ' handler at_once() { log("a"); after 0 { log("b"); after 0 { log("c"); } } }'
    ' handler slow(t) { later { after t { n = n + 10; } } } handler put(t) { after t { s = s + 1; } }', "{n}",
    stores="store s = 0;"
)


class Time(unittest.TestCase):
    def setUp(self):
        self.root = rooted(TIMING)

    def call(self, name, *arguments, lane="usual"):
        self.assertEqual(self.root.run_handler(1, name, list(arguments), lane), (True, False, None))

    def words(self):
        return [line[0] for line in self.root.take_log()]

    def test_clock(self):
        self.assertEqual([self.root.advance(ticks) for ticks in (0, 5, 0, 7, 10 ** 9)], [0, 5, 5, 12, 10 ** 9 + 12])
        self.assertEqual((self.root.clock, self.root.pending, self.root.commits), (10 ** 9 + 12, [], 1))

    def test_firing(self):
        self.call("wait", 10, "a")
        self.assertEqual((self.root.advance(9), self.words()), (9, []))
        self.assertEqual((self.root.advance(1), self.words(), self.root.pending), (10, ["a"], [(1, 10)]))
        self.assertEqual(self.root.running_timers(), [])
        self.assertEqual((self.root.html(), self.root.flush(), self.root.html()), ("0", (True, 1), "1"))

    def test_order(self):
        for ticks, word in [(5, "e"), (3, "a"), (5, "f"), (3, "b"), (4, "d"), (0, "zero")]:
            self.call("wait", ticks, word)
        self.assertEqual((self.root.advance(4), self.words()), (4, ["zero", "a", "b", "d"]))
        self.assertEqual((self.root.advance(6), self.words(), self.root.clock), (10, ["e", "f"], 10))

    def test_the_clock_is_that_of_the_timer(self):
        self.call("wait", 3, "a")
        self.call("put", 4)
        self.call("slow", 6)
        self.root.advance(100)
        self.assertEqual(self.root.pending, [(0, 4), (1, 3), (2, 6)])

    def test_repeated(self):
        self.call("tick", 3, "t")
        self.call("wait", 6, "w")
        self.assertEqual(self.root.running_timers(), [(1, 3, 3), (2, 6, 0)])
        self.assertEqual((self.root.advance(7), self.words()), (7, ["t", "t", "w"]))
        self.assertEqual(self.root.running_timers(), [(1, 9, 3)])

    def test_timers_that_start_timers(self):
        self.call("chain", 4)
        self.assertEqual((self.root.advance(4), self.words(), self.root.running_timers()), (4, ["one"], [(2, 8, 0)]))
        self.call("chain", 2)
        self.assertEqual((self.root.advance(4), self.words()), (8, ["one", "two", "two"]))
        self.call("at_once")
        self.assertEqual(self.words(), ["a"])
        self.assertEqual((self.root.advance(0), self.words(), self.root.clock), (8, ["b", "c"], 8))

    def test_fifty(self):
        self.call("tick", 1, "t")
        self.assertEqual((self.root.advance(50), len(self.words()), self.root.clock), (50, 50, 50))
        self.assertEqual((self.root.advance(51), len(self.words()), self.root.clock), (100, 50, 100))
        self.assertEqual((self.root.advance(0), self.words(), self.root.advance(1), self.words()), (100, [], 101, ["t"]))

    def test_fifty_at_one_tick(self):
        for _ in range(17):
            self.call("wait", 5, "w")
        for _ in range(3):
            self.call("tick", 1, "t")
        # 15 fire up to tick 5, 17 more at tick 5, and then three with each tick.
        self.assertEqual((self.root.advance(5), len(self.words())), (5, 32))
        self.assertEqual((self.root.advance(20), len(self.words())), (22, 50))
        self.assertEqual(self.root.running_timers()[0], (20, 22, 1))
        self.assertEqual((self.root.advance(0), self.words(), self.root.clock), (22, ["t"], 22))

    def test_the_51st_is_left(self):
        root = rooted(component("handler go() { every 1 { log(1); } every 2 { log(2); } }", ""))
        root.run_handler(1, "go", [])
        # Up to tick 33 there are 33 and 16 of them, the 50th is at tick 34, and so is the 51st.
        self.assertEqual((root.advance(40), len(root.take_log())), (34, 50))
        self.assertEqual((root.advance(6), len(root.take_log())), (40, 10))

    def test_faults_join_the_log(self):
        self.call("bad", 1)
        self.call("wait", 1, "next")
        self.root.advance(1)
        self.assertEqual(self.root.log_lines(), [[1], ["division by 0"], ["next"]])
        self.assertIsNone(self.root.error)

    def test_twenty_timers(self):
        for index in range(25):
            self.call("wait", 10 - index // 3, index)
        self.assertEqual(len(self.root.running_timers()), 20)
        self.root.advance(4)
        self.assertEqual(self.words(), [18, 19])
        self.call("wait", 1, "new")
        # No number was used for those that were not started.
        self.assertEqual(self.root.running_timers()[-1][0], 3)
        self.assertIn((21, 5, 0), self.root.running_timers())

    def test_event_is_null_in_timers(self):
        root = rooted(component("let acts = {f: do say()}; handler go() { after 1 { call acts.f(); } }"
                                " handler say() { log(event); }", "<p on go={do go()}/>"))
        root.event(2, "go", {})
        root.advance(1)
        self.assertEqual(root.log_lines(), [[None]])


class EventsOfTimers(unittest.TestCase):
    """`event` is None in the block of a timer, whoever has started it ([56])."""

    def clicked(self, lines, more=""):
        """A root whose handler h has been called by a click, with 7 as x; its log is empty."""
        handlers = f"handler h(x) {{ log(event.at); {lines} }} handler g() {{ {more} }}"
        root = rooted(component(f"state n = 0; let acts = {{f: do g()}}; {handlers}", "<b on click={do h(7)}/>"))
        self.assertEqual(root.event(2, "click", {"at": 1}), (True, False, []))
        # The handler itself sees the event.
        self.assertEqual(root.take_log(), [[1]])
        return root

    def check(self, root, ticks, lines):
        root.advance(ticks)
        self.assertEqual(root.take_log(), lines)

    def test_after(self):
        root = self.clicked("after 5 { log(event, x); }")
        self.check(root, 4, [])
        self.check(root, 1, [[None, 7]])

    def test_every_time(self):
        root = self.clicked("every 2 { log(event, x); }")
        for _ in range(3):
            self.check(root, 2, [[None, 7]])
        self.check(root, 4, [[None, 7], [None, 7]])

    def test_timers_of_timers(self):
        root = self.clicked("after 1 { every 1 { log(event, x); after 0 { log(event, x + 1); } } log(event); }")
        self.check(root, 1, [[None]])
        self.check(root, 2, [[None, 7], [None, 8], [None, 7], [None, 8]])

    def test_blocks_in_a_timer(self):
        root = self.clicked("later { after 1 { if event == null { later { log(event, x); } } else { log(1); } } }")
        self.check(root, 1, [[None, 7]])

    def test_handlers_that_a_timer_calls(self):
        root = self.clicked("after 2 { call acts.f(); }", "log(event); after 3 { log(event); }")
        self.check(root, 2, [[None]])
        self.check(root, 3, [[None]])

    def test_timers_of_handlers_that_the_handler_calls(self):
        root = self.clicked("call acts.f();", "n = event.at; after 3 { log(event); }")
        self.check(root, 3, [[None]])
        # What was sent ahead of it has the event still.
        root.flush()
        self.assertEqual(root.cells(1), [("n", 1, 0)])

    def test_updates_of_a_timer(self):
        root = self.clicked("n = event.at; after 3 { n = [n, event]; }")
        self.check(root, 3, [])
        root.flush()
        self.assertEqual(root.cells(1), [("n", [1, None], 0)])

    def test_fields_of_the_event(self):
        root = self.clicked("after 1 { log(x); log(event.at); }")
        self.check(root, 1, [[7], ["not a record"]])

    def test_gestures(self):
        root = rooted(component("handler h() { after 1 { log(event); } }", "<b on click={do h()}/>"))
        root.click(2)
        self.check(root, 1, [[None]])

    def test_timers_that_no_event_has_started(self):
        root = self.clicked("", "every 1 { log(event); }")
        root.run_handler(1, "g", [])
        self.check(root, 2, [[None], [None]])
        root = rooted(component("let acts = {f: do g()}; handler g() { after 1 { log(event); } }"
                                " effect [] { call acts.f(); after 2 { call acts.f(); } }", ""))
        self.check(root, 3, [[None], [None]])


class TimersOfEffects(unittest.TestCase):
    SOURCE = component(
        "let acts = {f: do start()}; handler start() { after 30 { log(\"by handler\"); } }"
        " effect [a] { every 10 { log(\"tick\"); after 5 { log(\"by timer\", a); } } call acts.f(); }", "{a}", "a")

    def test_they_end_with_their_run(self):
        root = rooted(self.SOURCE, {"a": 1})
        self.assertEqual(root.running_timers(), [(1, 10, 10), (2, 30, 0)])
        root.advance(12)
        self.assertEqual(root.running_timers(), [(3, 15, 0), (1, 20, 10), (2, 30, 0)])
        root.run_handler(1, "start", [])
        root.set_values({"a": 2})
        root.flush()
        # Those of the run are gone, whoever has started them there.
        self.assertEqual(root.running_timers(), [(5, 22, 10), (4, 42, 0), (6, 42, 0)])
        root.advance(30)
        self.assertEqual([line[0] for line in root.log_lines()],
                         ["tick", "tick", "by timer", "tick", "by timer", "by handler", "tick", "by handler"])

    def test_timers_of_events_belong_to_no_run(self):
        root = rooted(component("handler go() { after 9 {} } effect [a] {}", "<p on go={do go()}/>", "a"), {"a": 1})
        root.event(2, "go", {})
        root.set_values({"a": 2})
        root.flush()
        self.assertEqual(root.running_timers(), [(1, 9, 0)])

    def test_they_fire_while_the_run_lasts(self):
        root = rooted(self.SOURCE, {"a": 1})
        root.advance(15)
        self.assertEqual(root.log_lines(), [["tick"], ["by timer", 1]])

    def test_owners(self):
        root = rooted(component("state up = true;", "if up { <Leaf/> }",
                                more="component Leaf() { handler go() { every 2 { log(1); } } view {} }"))
        root.run_handler(first_of(root, "Leaf"), "go", [])
        root.advance(2)
        root.set_cell(1, "up", False)
        root.advance(2)
        self.assertEqual((root.log_lines(), len(root.running_timers())), ([[1], [1]], 1))
        root.flush()
        root.advance(9)
        self.assertEqual((root.log_lines(), root.running_timers()), ([[1], [1]], []))
