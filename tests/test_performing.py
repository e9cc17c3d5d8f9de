"""Performing statements and calling acts ([51] to [53])."""

import copy
import unittest

from tests.helpers import block, expression, shares
from tests.passes import Show, told
from viewloom.commits.performing import Performance, perform, perform_act
from viewloom.passes.instances import Instance, find, walk

SOURCE = """
store total = 1;
store both = 2;
store list = [1];
component Main(p) {
  context c;
  state n = 5;
  state both = 6;
  let d = [n];
  handler none() {}
  handler add(a, b) { n = a; total = n + a; log(a, b, event); }
  handler more(a) { later { call a(); n = 1; after 5 { log(event); } } n = 2; call a(); }
  view { <Kid go={do add(1)}/> try { <Bad/> } catch f { <i on x={f.retry}/> } await { <Hid/> <R/> } else { "w" } }
}
component Kid(go) { handler press(x) { call go(x, 2); n = 1; total = x; } view {} }
component Bad() { let x = 1 / 0; view {} }
component Hid() { state n = 0; handler set_it(x) { n = x; } view {} }
component R() { resource r = "k"; view {} }
"""


class Shown(unittest.TestCase):
    """A tree: 1 Main, 2 Kid, 3 try, 4 i, 5 await (with 6 Hid and 7 R if they are there)."""

    def setUp(self):
        show = Show(SOURCE.replace("state both", "state twice"), {"p": "P"})
        show.answers = [("k", ("value", 1))]
        show.go()
        show.answers = []
        show.go([0])
        # A sound program has no cell with the name of a store; one that is called so stands in the tree all the same.
        show.tree.cells[1].name = "both"
        self.show = show
        self.program = show.program
        self.tree = [show.tree]
        self.env = {"x": 1, "l": [1, 2], "t": "abc", "yes": True, "no": False, "nil": None, "self1": ("act", 1, "none", []),
                    "add": ("act", 1, "add", [10]), "retry": ("act", 3, "retry", []), "gone": ("act", 99, "add", [])}

    def perform(self, source, owner=1, lane=1, **more):
        tree = self.tree
        kept = copy.deepcopy((self.program, self.env)), told(tree)
        given = more.pop("environment", self.env)
        statements = block(source)
        done = perform(self.program, tree, statements, owner=owner, environment=given, lane=lane, **more)
        self.assertIsInstance(done, Performance)
        self.assertEqual(statements, block(source))
        self.assertFalse(shares([self.program, tree, statements, given, more], done.deeds))
        self.assertEqual(((self.program, self.env), told(tree)), kept)
        return done

    def deeds(self, source, **more):
        done = self.perform(source, **more)
        self.assertIsNone(done.fault)
        return done.deeds

    def act(self, act, arguments=(), lane=1, **more):
        kept = told(self.tree), copy.deepcopy(act)
        done = perform_act(self.program, self.tree, act, list(arguments), lane=lane, **more)
        self.assertFalse(shares([self.program, self.tree, act, arguments, more], done.deeds))
        self.assertEqual((told(self.tree), act), kept)
        return done


class Statements(Shown):
    def test_nothing(self):
        done = self.perform("")
        self.assertEqual((done.deeds, done.fault, done.left), ([], None, 500))

    def test_set(self):
        self.assertEqual(self.deeds("n = x + 1;"), [("send", 1, "n", 1, expression("x + 1"), self.env)])
        self.assertEqual(self.deeds("n = n / 0;", lane=3), [("send", 1, "n", 3, expression("n / 0"), self.env)])
        self.assertEqual(self.deeds("n = max(n, [x][0]);"), [("send", 1, "n", 1, expression("max(n, [x][0])"), self.env)])
        self.assertEqual(self.deeds("total = x + 1;"), [("store", "total", 2)])
        self.assertEqual(self.deeds("list = l + [do go(x)];"), [("store", "list", [1, 2, ("act", 1, "go", [1])])])
        # It is a cell, if it is a cell and a store; nothing is done if it is neither.
        self.assertEqual(self.deeds("both = 1;"), [("send", 1, "both", 1, expression("1"), self.env)])
        self.assertEqual(self.deeds("twice = 1; other = 1 / 0; d = 1; p = 1; c = 1;"), [])
        self.assertEqual(self.deeds("both = 1; n = 1;", owner=2), [("store", "both", 1)])

    def test_set_for_other_owners(self):
        hid = self.show.named("Hid").number
        self.assertEqual(self.deeds("n = x; total = x;", owner=hid),
                         [("send", hid, "n", 1, expression("x"), self.env), ("store", "total", 1)])
        for owner in (2, 3, 4, 5, 99):
            self.assertEqual(self.deeds("n = x; tries = x; total = x;", owner=owner), [("store", "total", 1)])

    def test_log_stop_prevent(self):
        self.assertEqual(self.deeds("log(); stop; log(x, l, do go(t)); prevent; stop;"),
                         [("log", []), ("stop",), ("log", [1, [1, 2], ("act", 1, "go", ["abc"])]), ("prevent",), ("stop",)])

    def test_if(self):
        self.assertEqual(self.deeds("if yes { log(1); } else { log(2); } log(3);"), [("log", [1]), ("log", [3])])
        self.assertEqual(self.deeds("if no { log(1); } else { log(2); } log(3);"), [("log", [2]), ("log", [3])])
        self.assertEqual(self.deeds("if no { log(1); } log(3);"), [("log", [3])])
        self.assertEqual(self.deeds("if yes { if no {} else { if yes { stop; } } }"), [("stop",)])
        for value in ("x", "t", "nil", "l", "add"):
            done = self.perform("log(1); if %s { log(2); } else { log(3); } log(4);" % value)
            self.assertEqual((done.deeds, done.fault, done.left), ([("log", [1])], "not true or false", 498))

    def test_later(self):
        for lane in range(4):
            self.assertEqual([deed[3] for deed in self.deeds("n = 1; later { n = 2; later { n = 3; } if yes { n = 4; } } n = 5;",
                                                             lane=lane)], [lane, 2, 2, 2, lane])

    def test_timers(self):
        self.assertEqual(self.deeds("after x { log(x); } every 10 {} later { after 0 { n = 1; stop; } }", lane=0), [
            ("timer", 1, 1, False, 0, self.env, block("log(x);")), ("timer", 1, 10, True, 0, self.env, []),
            ("timer", 1, 0, False, 2, self.env, block("n = 1; stop;")),
        ])
        for word, least in (("after", 0), ("every", 1)):
            again = word == "every"
            for ticks in (least, least + 1, 1000, 999999, 1000000):
                self.assertEqual(self.deeds("%s ticks {}" % word, environment={"ticks": ticks}),
                                 [("timer", 1, ticks, again, 1, {"ticks": ticks}, [])])
            for ticks in (least - 1, -5, 1000001, 10 ** 30, None, True, False, "5", "", [1], {"a": 1}, ("act", 1, "h", [])):
                done = self.perform("stop; %s ticks { stop; } stop;" % word, environment={"ticks": ticks})
                self.assertEqual((done.deeds, done.fault, done.left), ([("stop",)], "not a time", 498))

    def test_environments_of_deeds_are_apart(self):
        deeds = self.deeds("n = l; n = l; after 1 {} after 1 { log(l); } log(l); list = l;")
        kept = copy.deepcopy(deeds)
        deeds[0][5]["l"].append(9)
        deeds[2][5]["l"].append(9)
        deeds[2][6].append("x")
        deeds[4][1][0].append(9)
        deeds[5][2].append(9)
        self.assertEqual(deeds[1], kept[1])
        self.assertEqual(deeds[3], kept[3])
        self.assertEqual(self.env["l"], [1, 2])
        self.assertEqual(self.deeds("n = l; n = l; after 1 {} after 1 { log(l); } log(l); list = l;"), kept)

    def test_faults(self):
        for source, message in [
            ("total = 1 / 0;", "division by 0"), ("log(1 / 0);", "division by 0"), ("log(1, {}.a, 1 / 0);", "no field a"),
            ("if 1 / 0 {}", "division by 0"), ("after 1 / 0 {}", "division by 0"), ("every {}.a {}", "no field a"),
            ("call add(1 / 0);", "division by 0"), ("call l.x(1 / 0);", "not a record"),
            ("call x(1 / 0);", "division by 0"), ("call x({}.a, 1 / 0);", "no field a"),
            ("call x();", "not an action"), ("call nil();", "not an action"), ("call t(1);", "not an action"),
            ("call l();", "not an action"), ("call yes();", "not an action"), ("call gone(1 / 0);", "division by 0"),
            ("call retry(1 / 0);", "division by 0"), ("later { total = 1 / 0; }", "division by 0"),
            ("if yes { log(1 / 0); }", "division by 0"),
        ]:
            done = self.perform("n = 1; log(7); %s log(8);" % source)
            self.assertEqual(done.fault, message, source)
            self.assertEqual([deed[0] for deed in done.deeds], ["send", "log"], source)
        done = self.perform("total = 1 / 0;")
        self.assertEqual((done.deeds, done.fault, done.left), ([], "division by 0", 499))


class Acts(Shown):
    def test_of_a_component(self):
        env = {**find(self.tree, 1).env, "a": 10, "b": 20, "event": None}
        expected = [("send", 1, "n", 1, expression("a"), env), ("store", "total", 15), ("log", [10, 20, None])]
        self.assertEqual(self.deeds("call add(20);"), expected)
        self.assertEqual(self.act(("act", 1, "add", [10, 20])).deeds, expected)
        self.assertEqual(self.act(("act", 1, "add", [10]), [20]).deeds, expected)
        self.assertEqual(self.act(("act", 1, "add", []), [10, 20]).deeds, expected)
        self.assertEqual(env["p"], "P")
        self.assertEqual(env["d"], [5])

    def test_too_few_and_too_many_arguments(self):
        for given, further, a, b in [([], [], None, None), ([1], [], 1, None), ([], [1], 1, None), ([1, 2], [3], 1, 2),
                                     ([1, 2, 3], [4, 5], 1, 2), ([], [1, 2, 3], 1, 2), ([None], [2, 3], None, 2)]:
            done = self.act(("act", 1, "add", given), further)
            self.assertEqual([deed[1] for deed in done.deeds if deed[0] == "log"] or done.fault,
                             [[a, b, None]] if a is not None else "not to be added")
            self.assertEqual(done.deeds[0][5]["a"], a)
            self.assertEqual(done.deeds[0][5]["b"], b)

    def test_where_it_stands_and_lanes(self):
        for lane in range(4):
            self.assertEqual(self.act(("act", 1, "add", [1, 2]), lane=lane).deeds[0][3], lane)
            self.assertEqual(self.act(("act", 3, "retry", []), lane=lane).deeds, [("retry", 3, lane)])

    def test_of_a_try(self):
        self.assertEqual(self.deeds("call retry(); call retry(1, 2); later { call retry(); }"),
                         [("retry", 3, 1), ("retry", 3, 1), ("retry", 3, 2)])
        self.assertEqual(self.deeds("call a();", environment={"a": ("act", 3, "other", [])}), [])
        self.assertEqual(self.act(("act", 3, "add", [1])).deeds, [])

    def test_of_what_is_not_there(self):
        for act in [("act", 99, "add", [1, 2]), ("act", 99, "retry", []), ("act", 1, "other", []), ("act", 1, "retry", []),
                    ("act", 0, "add", []), ("act", 4, "add", []), ("act", 5, "retry", []), ("act", 2, "add", [])]:
            done = self.act(act, [1])
            self.assertEqual((done.deeds, done.fault, done.left), ([], None, 500), act)
            done = self.perform("call a(1); stop;", environment={"a": act})
            self.assertEqual((done.deeds, done.fault, done.left), ([("stop",)], None, 498))
        self.assertEqual(perform_act(self.program, [], ("act", 1, "add", []), [], lane=1).deeds, [])

    def test_of_what_is_called_like_a_component(self):
        # An element or a provide of this name is no component.
        for form in ("element", "provide"):
            tree = [Instance(form, 1, "", name="Main")]
            done = perform_act(self.program, tree, ("act", 1, "none", []), [], lane=1)
            self.assertEqual((done.deeds, done.fault, done.left), ([], None, 500))
            done = perform_act(self.program, tree, ("act", 1, "add", [1, 2]), [], lane=1)
            self.assertEqual((done.deeds, done.fault, done.left), ([], None, 500))

    def test_of_what_is_hidden(self):
        hid = self.show.named("Hid").number
        self.assertEqual(self.act(("act", hid, "set_it", [4])).deeds,
                         [("send", hid, "n", 1, expression("x"), {**find(self.tree, hid).env, "x": 4, "event": None})])

    def test_of_a_component_that_the_program_does_not_have(self):
        self.program["components"] = self.program["components"][1:]
        self.assertEqual(self.act(("act", 1, "add", [1, 2])).deeds, [])

    def test_of_another_component(self):
        # The kid calls what it was given: that is done for Main, then its own statements go on.
        done = self.act(("act", 2, "press", [7]))
        self.assertEqual([deed[:3] for deed in done.deeds],
                         [("send", 1, "n"), ("store", "total", 6), ("log", [1, 7, None]), ("store", "total", 7)])
        # Four statements of its own and three of the other handler.
        self.assertEqual(done.left, 500 - 6)
        self.assertEqual(done.deeds[0][5]["b"], 7)

    def test_paths(self):
        env = {"r": {"a": {"b": ("act", 1, "add", [1])}}}
        self.assertEqual(self.deeds("call r.a.b(2);", environment=env)[2], ("log", [1, 2, None]))
        done = self.perform("call r.a(2);", environment=env)
        self.assertEqual(done.fault, "not an action")
        self.assertEqual(self.perform("call r.b.c(2);", environment=env).fault, "no field b")

    def test_event(self):
        for event in (None, {"event": "click", "value": [1]}):
            more = {} if event is None else {"event": event}
            self.assertEqual(self.act(("act", 2, "press", [7]), **more).deeds[2], ("log", [1, 7, event]))
            self.assertEqual(self.act(("act", 2, "press", [7]), **more).deeds[0][5]["event"], event)
            self.assertEqual(self.deeds("call add(1);", **more)[2], ("log", [10, 1, event]))
            self.assertEqual(self.deeds("later { call add(1); }", **more)[2], ("log", [10, 1, event]))
        # The environment of a block is what it is.
        self.assertEqual(self.deeds("log(event); n = 1;", environment={"event": 5}, event=6),
                         [("log", [5]), ("send", 1, "n", 1, expression("1"), {"event": 5})])

    def test_lanes_within_handlers(self):
        env = {"m": ("act", 1, "more", [("act", 2, "press", [1])])}
        deeds = self.deeds("call m(); later { call m(); }", environment=env, lane=0)
        sends = [(deed[1], deed[3]) for deed in deeds if deed[0] == "send"]
        self.assertEqual(sends, [(1, 2), (1, 2), (1, 0), (1, 0), (1, 2), (1, 2), (1, 2), (1, 2)])
        timers = [deed for deed in deeds if deed[0] == "timer"]
        self.assertEqual([(deed[1], deed[2], deed[3], deed[4]) for deed in timers], [(1, 5, False, 2)] * 2)
        self.assertEqual(timers[0][5]["event"], None)
        self.assertEqual(timers[0][6], block("log(event);"))


DEEP = """
store s = 0;
component Main() {
  let go = do down();
  let again = do retried();
  let more = do forever();
  handler down(n) { if n > 1 { call go(n - 1); } else { s = n; stop; } }
  handler retried(n, r) { if n > 1 { call again(n - 1, r); } else { call r(); } }
  handler forever() { log(1); call more(); log(2); }
  handler many(n) { log(1); log(2); log(3); }
  view { try {} catch f {} }
}
"""


class Bounds(unittest.TestCase):
    def setUp(self):
        show = Show(DEEP)
        show.go()
        self.program, self.tree = show.program, [show.tree]

    def act(self, name, arguments=(), **more):
        return perform_act(self.program, self.tree, ("act", 1, name, []), list(arguments), lane=1, **more)

    def perform(self, source, environment=None, **more):
        given = environment or {name: ("act", 1, name, []) for name in ("down", "retried", "forever", "many")}
        return perform(self.program, self.tree, block(source), owner=1, environment=given, lane=1, **more)

    def test_calls_8_and_9_deep(self):
        for n in (1, 2, 7, 8):
            for done in (self.act("down", [n]), self.perform(f"call down({n});")):
                self.assertEqual((done.deeds, done.fault), ([("store", "s", 1), ("stop",)], None))
        for n in (9, 10, 100):
            for done in (self.act("down", [n]), self.perform(f"call down({n});")):
                self.assertEqual((done.deeds, done.fault), ([], "called too deep"))
        # Two statements in each of the 8 handlers.
        self.assertEqual(self.act("down", [9]).left, 500 - 16)
        self.assertEqual(self.perform("call down(9);").left, 500 - 17)
        done = self.perform("call down(8); call down(8); stop; call down(9); stop;")
        self.assertEqual((len(done.deeds), done.fault), (5, "called too deep"))

    def test_what_is_no_handler_is_no_call(self):
        # In the eighth handler a try may still be told to retry, and what is not there may be called.
        for act, deeds in [(("act", 2, "retry", []), [("retry", 2, 1)]), (("act", 99, "down", []), []),
                           (("act", 1, "none", []), []), (("act", 2, "down", []), [])]:
            done = self.act("retried", [8, act])
            self.assertEqual((done.deeds, done.fault), (deeds, None))
        done = self.act("retried", [8, ("act", 1, "down", [1])])
        self.assertEqual((done.deeds, done.fault), ([], "called too deep"))
        self.assertEqual(self.act("retried", [7, ("act", 1, "down", [1])]).fault, None)

    def test_handlers_without_end(self):
        done = self.act("forever")
        self.assertEqual((done.deeds, done.fault, done.left), ([("log", [1])] * 8, "called too deep", 500 - 16))

    def test_the_budget(self):
        for budget in (0, 1, 2, 3, 4, 5, 6):
            done = self.perform("log(1); if length([]) == 0 { log(2); log(3); } later { log(4); }", budget=budget)
            self.assertEqual(done.deeds, [("log", [n]) for n in (1, 2, 3, 4)][:[0, 1, 1, 2, 3, 3, 4][budget]])
            self.assertEqual(done.fault, None if budget == 6 else "too many steps")
            self.assertEqual(done.left, 0)
        self.assertEqual(self.perform("log(1); later {}", budget=7).left, 5)

    def test_the_budget_of_handlers(self):
        for budget, logs, fault in [(3, 3, None), (2, 2, "too many steps"), (0, 0, "too many steps")]:
            done = self.act("many", budget=budget)
            self.assertEqual((len(done.deeds), done.fault, done.left), (logs, fault, 0))
        for budget, logs, fault in [(9, 7, None), (8, 6, "too many steps"), (5, 3, "too many steps"),
                                    (4, 3, "too many steps")]:
            done = self.perform("call many(); call many(); log(1);", budget=budget)
            self.assertEqual((len(done.deeds), done.fault, done.left), (logs, fault, 0))
        self.assertEqual(self.act("many").left, 497)

    def test_500_steps(self):
        done = self.perform("log(1);" * 500)
        self.assertEqual((len(done.deeds), done.fault, done.left), (500, None, 0))
        done = self.perform("log(1);" * 501)
        self.assertEqual((len(done.deeds), done.fault, done.left), (500, "too many steps", 0))
        # A statement whose block is empty, or not performed, takes one.
        done = self.perform("if true {} if false { stop; } later {} after 1 { stop; } call many();", budget=8)
        self.assertEqual((len(done.deeds), done.fault, done.left), (4, None, 0))

    def test_the_budget_is_looked_at_before_the_statement(self):
        done = self.perform("stop; log(1 / 0);", budget=1)
        self.assertEqual((done.deeds, done.fault, done.left), ([("stop",)], "too many steps", 0))
        done = self.perform("stop; log(1 / 0);", budget=2)
        self.assertEqual((done.deeds, done.fault, done.left), ([("stop",)], "division by 0", 0))


class Several(unittest.TestCase):
    def test_the_tree_may_have_several_instances(self):
        first = Show("component Main() { state n = 0; handler h() { n = 1; } view {} }")
        first.go()
        second = Show("component Main() { state n = 0; handler h() { n = 1; } view {} }")
        second.next_id = 7
        second.go()
        tree = [first.tree, second.tree]
        self.assertEqual([one.number for one in walk(tree)], [1, 7])
        for owner in (1, 7):
            done = perform_act(first.program, tree, ("act", owner, "h", []), [], lane=2)
            self.assertEqual(done.deeds, [("send", owner, "n", 2, ("number", 1), {"n": 0, "event": None})])
