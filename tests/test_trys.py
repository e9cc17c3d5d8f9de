"""Trys in passes ([47])."""

import unittest

from tests.helpers import expression, shares
from tests.passes import Show, told
from viewloom.passes.instances import image

TRY = """
component Main(a) { handler go() {} view {
  "x" try { <p><F a={a}/></p> <State/> } catch f { <b on retry={f.retry} on go={do go()}>{f.message} {a}</b> <State/> }
} }
component F(a) { state m = 1; let x = 10 / a; view { {x * m} } }
component State() { state n = 0; view { {n} } }
"""


class Trys(unittest.TestCase):
    def show(self, a):
        return Show(TRY, {"a": a})

    def test_a_try_that_is_fine(self):
        show = self.show(5)
        self.assertEqual(show.go(), "1Main[2'x' 3try[4p[5F[6'2']] 7State[8'0']]]")
        self.assertEqual((show.find(3).message, show.find(3).failed_at), (None, 0))
        self.assertEqual(show.find(3).tries.present, [0, None])

    def test_a_try_that_fails_at_first(self):
        show = self.show(0)
        self.assertEqual(show.go(), "1Main[2'x' 3try(division by 0)[4b[5'division by 0' 6'0'] 7State[8'0']]]")
        tried = show.find(3)
        self.assertEqual((tried.message, tried.failed_at, tried.tries.present), ("division by 0", 0, [0, None]))
        self.assertEqual(show.find(4).acts, [("retry", ("act", 3, "retry", [])), ("go", ("act", 1, "go", []))])
        # p is 4, F is 5, both are given back.
        self.assertEqual((show.rendered, show.made.next_id, show.made.cost), ([1, 5, 7], 9, 3))
        self.assertEqual(image([show.tree])[1][4], (("text", 5, "division by 0"), ("text", 6, "0")))

    def test_failing_later(self):
        show = self.show(5)
        show.go()
        show.send("State", "n", ("number", 4))
        show.values = {"a": 0}
        # The nodes behind catch are all new.
        self.assertEqual(show.go(), "1Main[2'x' 3try(division by 0)[9b[10'division by 0' 11'0'] 12State[13'0']]]")
        self.assertEqual(show.rendered, [1, 5, 12])
        # It stays failed: its kids are not tried again, those behind catch keep what they have.
        show.send("State", "n", ("number", 7))
        show.values = {"a": 2}
        self.assertEqual(show.go(), "1Main[2'x' 3try(division by 0)[9b[10'division by 0' 11'2'] 12State[13'7']]]")
        self.assertEqual((show.rendered, show.made.next_id), ([1, 12], 14))

    def test_retrying(self):
        show = self.show(0)
        show.go()
        retry = expression("[tries[0] + 1, null]")
        show.send("State", "n", ("number", 7))
        # In vain: the kids behind catch are those that were there.
        show.find(3).tries.send(2, retry, {})
        self.assertEqual(show.go([1]), "1Main[2'x' 3try(division by 0)[4b[5'division by 0' 6'0'] 7State[8'7']]]")
        self.assertEqual((show.rendered, show.find(3).failed_at), ([7], 0))
        self.assertEqual(show.go([2]), "1Main[2'x' 3try(division by 0)[4b[5'division by 0' 6'0'] 7State[8'7']]]")
        self.assertEqual((show.rendered, show.find(3).failed_at, show.made.next_id), ([10], 1, 9))
        self.assertEqual(show.find(3).tries.present, [1, None])
        # With success: the kids are all new.
        show.values = {"a": 10}
        self.assertEqual(show.go(), "1Main[2'x' 3try(division by 0)[4b[5'division by 0' 6'10'] 7State[8'7']]]")
        show.find(3).tries.send(0, retry, {})
        self.assertEqual(show.go([0]), "1Main[2'x' 3try[9p[10F[11'1']] 12State[13'0']]]")
        self.assertEqual((show.find(3).message, show.find(3).tries.present), (None, [2, None]))
        # Failing again at a number at which it did not fail.
        show.values = {"a": 0}
        self.assertEqual(show.go(), "1Main[2'x' 3try(division by 0)[14b[15'division by 0' 16'0'] 17State[18'0']]]")
        self.assertEqual(show.find(3).failed_at, 2)

    def test_a_text_in_its_cell(self):
        show = self.show(5)
        show.go()
        show.send_tries(3, [0, "told"])
        self.assertEqual(show.go(), "1Main[2'x' 3try(told)[9b[10'told' 11'5'] 12State[13'0']]]")
        self.assertEqual((show.find(3).message, show.find(3).failed_at), ("told", 0))
        # Another text later, over what is failed already.
        show.send_tries(3, [0, ""])
        self.assertEqual(show.go(), "1Main[2'x' 3try()[9b[10'' 11'5'] 12State[13'0']]]")
        self.assertEqual((show.find(3).message, show.find(3).failed_at), ("", 0))
        # Without the text it is failed at this number still.
        show.send_tries(3, [0, None])
        self.assertEqual(show.go(), "1Main[2'x' 3try()[9b[10'' 11'5'] 12State[13'0']]]")
        show.send_tries(3, [1, None])
        self.assertEqual(show.go(), "1Main[2'x' 3try[14p[15F[16'2']] 17State[18'0']]]")
        # The text counts ahead of the kids, which are not made.
        show.send_tries(3, [1, "again"])
        show.values = {"a": 0}
        self.assertEqual(show.go(), "1Main[2'x' 3try(again)[19b[20'again' 21'0'] 22State[23'0']]]")
        self.assertEqual((show.rendered, show.find(3).failed_at), ([1, 22], 1))

    def test_cells_that_fail(self):
        show = self.show(5)
        show.go()
        show.send("F", "m", expression("m / 0"))
        self.assertEqual(show.go(), "1Main[2'x' 3try(division by 0)[9b[10'division by 0' 11'5'] 12State[13'0']]]")
        self.assertEqual(show.rendered, [12])
        show = Show("component Main() { view { try { <C/> } catch f { {f.message} } } } "
                    "component C() { state n = {}.x; view {} }")
        self.assertEqual(show.go(), "1Main[2try(no field x)[3'no field x']]")
        self.assertEqual(show.rendered, [1])

    def test_effects_that_depend_on_a_fault(self):
        show = Show("component Main() { view { try { <C/> } catch f { {f.message} } } } "
                    "component C() { effect [1 / 0] {} view {} }")
        self.assertEqual(show.go(), "1Main[2try(division by 0)[3'division by 0']]")

    def test_errors_of_resources(self):
        show = Show("component Main() { view { try { <C/> } catch f { {f.message} } } } "
                    'component C() { resource r = "k"; view { {r} } }')
        show.answers = [("k", ("error", "no luck"))]
        self.assertEqual(show.go(), "1Main[2try(no luck)[3'no luck']]")

    def test_the_nearest_try(self):
        show = Show("""
component Main(a, b) { view { try { "o" try { "i" <F a={a}/> } catch f { {f.message} <F a={b}/> } } catch g { "out" } } }
component F(a) { let x = 10 / a; view { {x} } }
""", {"a": 0, "b": 5})
        self.assertEqual(show.go(), "1Main[2try[3'o' 4try(division by 0)[5'division by 0' 6F[7'2']]]]")
        # A failure of the nodes behind catch is a failure of the try itself.
        show.values = {"a": 0, "b": 0}
        self.assertEqual(show.go(), "1Main[2try(division by 0)[8'out']]")
        show.values = {"a": 5, "b": 5}
        self.assertEqual(show.go(), "1Main[2try(division by 0)[8'out']]")
        show = Show(TRY.replace("{f.message}", "{1 / 0}"), {"a": 0})
        self.assertEqual(show.make(), ("fails", "division by 0"))
        self.assertEqual(show.made.next_id, 1)
        show = Show("component Main() { view { try { <F/> } catch f { <G/> } } } component F() { let a = 1 / 0; view {} }"
                    " component G() { let a = {}.x; view {} }")
        self.assertEqual((show.make(), show.rendered), (("fails", "no field x"), [1, 3, 3]))

    def test_a_fault_of_its_own_kids_where_they_stand(self):
        # It is a fault of the component in whose view they stand, not one that the try shows.
        show = Show("component Main() { view { try { {1 / 0} } catch f { {f.message} } } }")
        self.assertEqual(show.make(), ("fails", "division by 0"))
        show = Show("component Main() { view { try { <A/> } catch f { {f.message} } } } "
                    "component A() { view { try { {1 / 0} } catch f { \"never\" } } }")
        self.assertEqual(show.go(), "1Main[2try(division by 0)[3'division by 0']]")

    def test_what_is_described_behind_catch(self):
        # Its environment, its owner and its slot are those of the view in which the try stands.
        show = Show("""
component Main() { state n = 1; handler go() {} view { <Outer>try { <F/> } catch f { {n} <i on a={do go()}/> slot } {n}
</Outer> } }
component Outer() { state n = 2; view { <Inner>slot try { <F/> } catch g { {n + g.message} slot } </Inner> } }
component Inner() { view { each x in [7] { try { <F/> } catch h { {x} slot } } } }
component F() { let a = 1 / 0; view {} }
""")
        show.go()
        texts = [node[2] for node in image([show.tree]) if node[0] == "text"]
        self.assertEqual(texts, ["7", "1", "1", "2division by 0", "1", "1"])
        self.assertEqual(show.named("i").acts, [("a", ("act", 1, "go", []))])

    def test_the_record_of_a_failure(self):
        show = Show("component Main(l) { view { each x in l { try { <F/> } catch f { {keys(f)[0] + keys(f)[1]} "
                    "<B f={f} x={x}/> } } } } component F() { let a = 1 / 0; view {} } component B(f, x) { view {} }",
                    {"l": ["a", "b"]})
        self.assertEqual(show.go(), "1Main[2try(division by 0)[3'messageretry' 4B] 5try(division by 0)[6'messageretry' 7B]]")
        self.assertEqual([show.find(number).parameters for number in (4, 7)],
                         [{"f": {"message": "division by 0", "retry": ("act", owner, "retry", [])}, "x": x}
                          for owner, x in [(2, "a"), (5, "b")]])

    def test_ids_are_given_back(self):
        show = Show("""
component Main(a) { view { <A/> try { <A/> <p><A/> <F a={a}/></p> } catch f { <A/> } <A/> } }
component A() { view { "a" } }
component F(a) { let x = 1 / a; view {} }
""", {"a": 0})
        self.assertEqual(show.go(), "1Main[2A[3'a'] 4try(division by 0)[5A[6'a']] 7A[8'a']]")
        self.assertEqual((show.rendered, show.made.next_id, show.made.cost), ([1, 2, 5, 8, 10, 5, 7], 9, 7))

    def test_an_unsound_update_of_its_cell(self):
        show = self.show(5)
        show.go()
        show.find(3).tries.send(1, expression("tries[5]"), {})
        self.assertEqual(show.make(), ("fails", "nothing there"))

    def test_the_tree_does_not_change(self):
        show = self.show(0)
        show.go()
        show.find(3).tries.send(1, expression("[tries[0] + 1, null]"), {})
        tree, kept = show.tree, told([show.tree])
        for values in ({"a": 0}, {"a": 1}):
            show.values = values
            for lanes in ([], [1]):
                outcome = show.make(lanes)
                self.assertEqual(outcome[0], "tree")
                self.assertFalse(shares([tree, show.program], outcome[1]))
                self.assertEqual(told([tree]), kept)
        first = show.make([1])[1]
        self.assertEqual(show.tree.kids[1].tries.waiting, 1)
        self.assertEqual(first.kids[1].tries.waiting, 0)
