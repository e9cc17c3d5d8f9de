"""Resources and awaits in passes ([47])."""

import unittest

from tests.helpers import expression, shares
from tests.passes import Show, short, told
from viewloom.passes.instances import image, walk


def wait(tree):
    return [one for one in walk([tree]) if one.form == "await"]


class Resources(unittest.TestCase):
    def test_a_resource_that_waits(self):
        show = Show('component Main(k) { let a = k + 1; resource r = "key" + a; let b = r / 0; view { {r} } }', {"k": 1})
        self.assertEqual(show.make(), ("waits", ["key2"]))
        self.assertEqual((show.made.asked, show.rendered, show.made.next_id, show.made.cost), (["key2"], [1], 1, 1))

    def test_values(self):
        for value in [None, True, 1, "x", [1, [2]], {"a": [1]}]:
            show = Show("component Main() { resource r = {q: [1]}; let s = r; view {} }")
            show.answers = [({"q": [True]}, ("value", "wrong")), ({"q": [1]}, ("value", value)),
                            ({"q": [1]}, ("error", "later"))]
            self.assertEqual(show.go(), "1Main")
            self.assertEqual(show.tree.env, {"r": value, "s": value})
            self.assertEqual(show.made.asked, [])
            self.assertFalse(shares(show.tree, show.answers))

    def test_errors(self):
        show = Show('component Main() { resource r = "k"; let a = 1 / 0; view {} }')
        show.answers = [("k", ("error", "no luck"))]
        self.assertEqual(show.make(), ("fails", "no luck"))
        self.assertEqual((show.made.asked, show.rendered, show.made.next_id), ([], [1], 1))
        show.answers = [("k", ("error", ""))]
        self.assertEqual(show.make(), ("fails", ""))

    def test_keys_are_told_apart(self):
        show = Show("component Main(k) { resource r = k; view { {r} } }")
        show.answers = [(1, ("value", "number")), (True, ("value", "truth")), ("1", ("value", "text")),
                        ([1], ("value", "list")), (None, ("value", "none")), ({"b": 2, "a": 1}, ("value", "record"))]
        for key, text in [(1, "number"), (True, "truth"), ("1", "text"), ([1], "list"), (None, "none"),
                          ({"a": 1, "b": 2}, "record")]:
            show.values = {"k": key}
            self.assertEqual(show.go(), f"1Main[2'{text}']")
        for key in [False, 0, "", [], [True], {"a": 1}]:
            show.values = {"k": key}
            self.assertEqual(show.make(), ("waits", [key]))

    def test_keys_with_acts(self):
        for key in ["do h()", "[do h()]", "{a: [1, {b: do h(1)}]}", "[[], [1, do h()]]"]:
            show = Show("component Main() { resource r = %s; handler h() {} view {} }" % key)
            self.assertEqual(show.make(), ("fails", "not a key"), key)
            self.assertEqual(show.made.asked, [])

    def test_several_resources(self):
        show = Show('component Main() { resource a = "a"; resource b = "b" + a; resource c = "c"; view { {a + b + c} } }')
        self.assertEqual(show.make(), ("waits", ["a"]))
        show.answers = [("a", ("value", 1))]
        self.assertEqual(show.make(), ("waits", ["b1"]))
        self.assertEqual(show.made.asked, ["b1"])
        show.answers += [("c", ("value", 3))]
        self.assertEqual(show.make(), ("waits", ["b1"]))
        show.answers += [("b1", ("value", 2))]
        self.assertEqual(show.go(), "1Main[2'6']")
        self.assertEqual(show.tree.env, {"a": 1, "b": 2, "c": 3})
        show.answers = [("c", ("error", "e"))] + show.answers[:1] + show.answers[2:]
        self.assertEqual(show.make(), ("fails", "e"))

    def test_components_with_resources_are_rendered(self):
        show = Show('component Main() { resource r = "k"; view { <B/> } } component B() { view {} }')
        show.answers = [("k", ("value", 1))]
        show.go()
        for _ in range(2):
            self.assertEqual(show.go(), "1Main[2B]")
            self.assertEqual(show.rendered, [1])

    def test_asked_has_each_key_once(self):
        show = Show("""
component Main() { view { each k in ["a", "b", "a", ["c"], "b", ["c"]] { <R k={k}/> } } }
component R(k) { resource r = k; view {} }
""")
        outcome = show.make()
        self.assertEqual(outcome, ("waits", ["a", "b", "a", ["c"], "b", ["c"]]))
        self.assertEqual(show.made.asked, ["a", "b", ["c"]])
        show.made.asked[2].append(1)
        self.assertEqual(outcome[1][3], ["c"])
        # What is answered is not asked for; what is asked for stays so if the part is given up.
        show.answers = [("b", ("value", 1))]
        self.assertEqual(show.make(), ("waits", ["a", "a", ["c"], ["c"]]))
        self.assertEqual(show.made.asked, ["a", ["c"]])
        show = Show("component Main() { view { <R k={1}/> <F/> } } component F() { let a = 1 / 0; view {} } "
                    "component R(k) { resource r = k; view {} }")
        self.assertEqual((show.make(), show.made.asked), (("fails", "division by 0"), [1]))

    def test_keys_of_several_members(self):
        show = Show("""
component Main() { view { "x" <R k={1}/> <p><R k={2}/> <q/> <R k={1}/></p> <Fine/> provide c = 0 { <R k={3}/> } } }
component R(k) { resource r = k; view { {r} } }
component Fine() { view { "fine" <R k={4}/> } }
""")
        self.assertEqual(show.make(), ("waits", [1, 2, 1, 4, 3]))
        # 1Main 2'x' 3R: given back, 3p 4R: given back, 4q 5R: all given back, 3Fine 4'fine' 5R, 3= 4R.
        self.assertEqual((show.rendered, show.made.next_id), ([1, 3, 4, 5, 3, 5, 4], 1))
        show.answers = [(key, ("value", key)) for key in (1, 2, 3, 4)]
        self.assertEqual(show.go(), "1Main[2'x' 3R[4'1'] 5p[6R[7'2'] 8q 9R[10'1']] 11Fine[12'fine' 13R[14'4']] "
                                    "15=c[16R[17'3']]]")


AWAIT = """
component Main(k, s) { view {
  await { <p><R k={k}/> "kid"</p> <State/> } else { "wait" {k} <State/> }
} }
component R(k) { resource r = k; view { {r} } }
component State() { state n = 0; effect [n] {} view { {n} } }
"""


class Awaits(unittest.TestCase):
    def show(self, *answered):
        show = Show(AWAIT, {"k": 1, "s": 0})
        show.answers = [(key, ("value", key)) for key in answered]
        return show

    def test_a_new_await_waits(self):
        for lanes in ([], [0], [1], [2], [3], [2, 3], [0, 3]):
            show = self.show()
            self.assertEqual(show.go(lanes), "1Main[2await..[3'wait' 4'1' 5State[6'0']]]")
            self.assertEqual((show.made.asked, show.made.next_id, show.rendered, show.made.cost),
                             ([1], 7, [1, 4, 3, 5], 4))
            one = wait(show.tree)[0]
            self.assertEqual((one.waits, one.kids), (True, []))
            self.assertEqual(image([show.tree]), [("text", 3, "wait"), ("text", 4, "1"), ("text", 6, "0")])

    def test_an_await_that_is_done(self):
        show = self.show(1)
        self.assertEqual(show.go(), "1Main[2await[3p[4R[5'1'] 6'kid'] 7State[8'0']]]")
        self.assertEqual(wait(show.tree)[0].fallback, [])

    def test_waiting_and_then_done(self):
        show = self.show()
        show.go()
        # It waits again, with the fallback that it had, for each set of lanes.
        for lanes in ([], [0], [2], [3], [2, 3]):
            show.find(5).cells[0].send(1, expression("n + 1"), {})
            self.assertEqual(show.go(lanes), "1Main[2await..[3'wait' 4'1' 5State[6'0']]]")
            self.assertEqual(show.made.asked, [1])
        self.assertEqual(show.go([1]), "1Main[2await..[3'wait' 4'1' 5State[6'5']]]")
        self.assertEqual((show.rendered, show.made.next_id), ([8, 7, 5], 7))
        show.answers = [(1, ("value", "now"))]
        # A new key for the kids, which were none; the fallback is gone.
        self.assertEqual(show.go(), "1Main[2await[7p[8R[9'now'] 10'kid'] 11State[12'0']]]")

    def test_holding(self):
        for lanes, holds in [([2], True), ([3], True), ([2, 3], True), ([], True), ([0], False), ([1], False),
                             ([1, 2], False), ([0, 1, 2, 3], False), ([3, 0], False), ([2, 1, 3], False)]:
            show = self.show(1)
            show.go()
            show.find(7).cells[0].send(1, ("number", 5), {})
            show.values = {"k": 2, "s": 0}
            tree, kept = show.tree, told([show.tree])
            outcome = show.make(lanes)
            self.assertEqual(outcome[0], "holds" if holds else "tree", lanes)
            self.assertEqual(show.made.asked, [2])
            self.assertEqual(told([tree]), kept)
            if holds:
                self.assertEqual(outcome, ("holds", [2]))
                self.assertEqual(show.made.next_id, 9)
            else:
                # The kids stay as they were, with all that they wait for; the fallback is new.
                self.assertEqual(short([outcome[1]]), "1Main[2await[3p[4R[5'1'] 6'kid'] 7State[8'0']]"
                                                      "..[9'wait' 10'2' 11State[12'0']]]")
                self.assertEqual(told(outcome[1].kids[0].kids), told(tree.kids[0].kids))
                self.assertFalse(shares(outcome[1], tree))
                self.assertEqual(outcome[1].kids[0].kids[1].cells[0].waiting, 1)
                self.assertEqual(image([outcome[1]]), [("text", 9, "wait"), ("text", 10, "2"), ("text", 12, "0")])

    def test_hidden_kids_come_back(self):
        show = self.show(1)
        show.go()
        show.send("State", "n", ("number", 5))
        show.values = {"k": 2, "s": 0}
        first = "1Main[2await[3p[4R[5'1'] 6'kid'] 7State[8'0']]..[9'wait' 10'2' 11State[12'0']]]"
        self.assertEqual(show.go([0]), first)
        # It did wait: so it does not hold now.
        for lanes in ([2], [3], []):
            self.assertEqual(show.go(lanes), first)
        show.find(11).cells[0].send(1, ("number", 6), {})
        self.assertEqual(show.go([1]), first.replace("12'0'", "12'6'"))
        # The update of what is hidden waits until it is made again, in a pass with its lane.
        show.answers.append((2, ("value", "two")))
        self.assertEqual(show.go([2]), "1Main[2await[3p[4R[5'two'] 6'kid'] 7State[8'0']]]")
        self.assertEqual(show.rendered, [4])
        self.assertEqual(show.go([1]), "1Main[2await[3p[4R[5'two'] 6'kid'] 7State[8'5']]]")
        self.assertEqual(show.rendered, [4, 7])

    def test_holding_in_a_list(self):
        show = Show("""
component Main(a, b, c) { view {
  <R k={a}/> await { <R k={b}/> <R k={b}/> } else {} <R k={c}/> <p>await { <R k={c}/> } else {}</p>
} }
component R(k) { resource r = k; view { {r} } }
""", {"a": 1, "b": 2, "c": 3})
        show.answers = [(key, ("value", key)) for key in (1, 2, 3)]
        show.go()
        for values, outcome, asked in [
            ((1, 8, 3), ("holds", [8, 8]), [8]), ((9, 8, 3), ("holds", [8, 8]), [9, 8]),
            ((9, 2, 3), ("waits", [9]), [9]), ((9, 2, 7), ("holds", [7]), [9, 7]), ((1, 8, 7), ("holds", [8, 8]), [8]),
        ]:
            show.values = dict(zip("abc", values))
            self.assertEqual(show.make([2]), outcome)
            self.assertEqual((show.made.asked, show.made.next_id), (asked, 15))

    def test_what_waits_within_a_fallback(self):
        show = Show("""
component Main() { view { await { <R k={1}/> "a" } else { "w" <R k={2}/> <R k={3}/> } } }
component R(k) { resource r = k; view { {r} } }
""")
        self.assertEqual(show.make(), ("waits", [2, 3]))
        self.assertEqual((show.made.asked, show.made.next_id), ([1, 2, 3], 1))
        show.answers = [(2, ("value", 2)), (3, ("value", 3))]
        self.assertEqual(show.go(), "1Main[2await..[3'w' 4R[5'2'] 6R[7'3']]]")
        show.answers = [(1, ("value", 1))]
        self.assertEqual(show.go(), "1Main[2await[8R[9'1'] 10'a']]")

    def test_awaits_in_awaits(self):
        show = Show("""
component Main(a, b, c) { view {
  await { "o" await { <R k={a}/> } else { "i" <R k={b}/> } <R k={c}/> } else { "out" }
} }
component R(k) { resource r = k; view { {r} } }
""", {"a": 1, "b": 2, "c": 3})
        self.assertEqual(show.go(), "1Main[2await..[3'out']]")
        self.assertEqual(show.made.asked, [1, 2, 3])
        # The inner one waits as a whole, since its fallback waits: the outer one waits for that.
        show.answers = [(3, ("value", 3))]
        self.assertEqual(show.go(), "1Main[2await..[3'out']]")
        self.assertEqual(show.made.asked, [1, 2])
        show.answers = [(2, ("value", 2)), (3, ("value", 3))]
        self.assertEqual(show.go(), "1Main[2await[4'o' 5await..[6'i' 7R[8'2']] 9R[10'3']]]")
        show.values = {"a": 1, "b": 4, "c": 3}
        # Only the outer one did not wait before; the inner one did, and has a fallback that waits now.
        self.assertEqual(show.make([2]), ("holds", [4]))
        self.assertEqual(show.go([1]), "1Main[2await[4'o' 5await..[6'i' 7R[8'2']] 9R[10'3']]..[11'out']]")
        show.answers += [(1, ("value", 1))]
        self.assertEqual(show.go([1]), "1Main[2await[4'o' 5await[12R[13'1']] 9R[10'3']]]")

    def test_a_try_around_what_waits(self):
        show = Show("""
component Main() { view { try { "t" <R k={1}/> <F/> } catch f { {f.message} }
  await { try { <R k={2}/> } catch f { "c" } } else { "w" } } }
component R(k) { resource r = k; view { {r} } }
component F() { state n = 0; let x = 1 / n; view { {x} } }
""")
        # A failure behind what waits counts; what waits in a try makes it wait.
        self.assertEqual(show.go(), "1Main[2try(division by 0)[3'division by 0'] 4await..[5'w']]")
        self.assertEqual((show.made.asked, show.made.next_id), ([1, 2], 6))
        show.program["components"][2]["cells"] = [("n", ("number", 1))]
        show.tree, show.next_id = None, 1
        self.assertEqual(show.make(), ("waits", [1]))
        show.answers = [(1, ("value", 1)), (2, ("value", 2))]
        self.assertEqual(show.go(), "1Main[2try[3't' 4R[5'1'] 6F[7'1']] 8await[9try[10R[11'2']]]]")

    def test_a_failure_in_an_await(self):
        show = Show("""
component Main(k) { view { await { <R k={1}/> <F k={k}/> } else { <F k={1 - k}/> } } }
component R(k) { resource r = k; view {} }
component F(k) { let x = 1 / k; view {} }
""", {"k": 0})
        self.assertEqual(show.make(), ("fails", "division by 0"))
        show.values = {"k": 1}
        self.assertEqual(show.make(), ("fails", "division by 0"))
        self.assertEqual(show.made.asked, [1])
        show.values = {"k": 2}
        self.assertEqual(show.go(), "1Main[2await..[3F]]")
