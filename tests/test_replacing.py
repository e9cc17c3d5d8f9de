"""What fits another program ([73])."""

import copy
import unittest

from tests.helpers import shares
from tests.passes import Show, short, told
from viewloom.tools.replacing import fits, kept_stores, pruned
from viewloom.words.reading import parse_program


def program(*components, stores=""):
    """A program with components, each told by its name and its cells."""
    text = stores
    for name, cells in components:
        text += f"component {name}() {{ " + "".join(f"state {cell} = 0; " for cell in cells) + "view {} } "
    return parse_program(text)


class Fits(unittest.TestCase):
    def test_fits(self):
        before = program(("A", ["x", "y"]), ("B", []), ("C", ["x"]))
        for now, wanted in [
            (before, [True, True, True]),
            (program(("C", ["x"]), ("A", ["x", "y"]), ("B", [])), [True, True, True]),
            (program(("A", ["y", "x"]), ("B", ["x"]), ("C", [])), [False, False, False]),
            (program(("A", ["x"]), ("C", ["x", "y"])), [False, False, False]),
            (program(("A", ["x", "z"]), ("B", []), ("C", ["X"])), [False, True, False]),
            (program(), [False, False, False]),
        ]:
            for name, answer in zip("ABC", wanted):
                self.assertIs(fits(before, now, name), answer, (name, now))
        self.assertIs(fits(before, before, "D"), False)
        self.assertIs(fits(before, program(("D", [])), "D"), False)

    def test_other_lines_have_no_meaning(self):
        a = parse_program("component A(p) { state x = 1; view { \"a\" } }")
        b = parse_program("component A(q, r) { context c; state x = [2]; let y = 1; handler h() {} view { \"b\" } }")
        self.assertIs(fits(a, b, "A"), True)


TREE = '''
component Main(yes) {
  state m = [1];
  view {
    <p><A><b>"in"</b><B/></A></p>
    provide c = {x: [1]} { <B/> <C/> }
    try { <A/> } catch f { <B/> }
    try { <Bad/> } catch f { <A/> <B/> }
    await { <C/> <A/> } else { <B/> <A/> }
    await { <Asker/> } else { <B/> <A/> <p>"w"</p> }
    "end"
  }
}
component A() { state x = [1]; view { slot <C/> } }
component B() { state y = 0; view { "b" } }
component C() { state z = 0; view { {z} } }
component Bad() { view { {1 / 0} } }
component Asker() { resource r = "k"; view { {r} } }
'''


def tree(source=TREE):
    show = Show(source)
    show.go()
    return show


class Pruned(unittest.TestCase):
    def test_all_fit(self):
        show = tree()
        found = pruned([show.tree], show.program, show.program)
        self.assertEqual(told(found), told([show.tree]))
        self.assertFalse(shares(found, [show.tree]))

    def test_some_fit(self):
        show = tree()
        full = short([show.tree])
        self.assertEqual(full, (
            "1Main[2p[3A[4b[5'in'] 6B[7'b'] 8C[9'0']]] 10=c[11B[12'b'] 13C[14'0']] 15try[16A[17C[18'0']]]"
            " 19try(division by 0)[20A[21C[22'0']] 23B[24'b']] 25await[26C[27'0'] 28A[29C[30'0']]]"
            " 31await..[32B[33'b'] 34A[35C[36'0']] 37p[38'w']] 39'end']"
        ))
        for old, new, wanted in [
            ("state y = 0;", "", (
                "1Main[2p[3A[4b[5'in'] 8C[9'0']]] 10=c[13C[14'0']] 15try[16A[17C[18'0']]]"
                " 19try(division by 0)[20A[21C[22'0']]] 25await[26C[27'0'] 28A[29C[30'0']]]"
                " 31await..[34A[35C[36'0']] 37p[38'w']] 39'end']")),
            ("state z = 0;", "state z = 0; state u = 1;", (
                "1Main[2p[3A[4b[5'in'] 6B[7'b']]] 10=c[11B[12'b']] 15try[16A] 19try(division by 0)[20A 23B[24'b']]"
                " 25await[28A] 31await..[32B[33'b'] 34A 37p[38'w']] 39'end']")),
            ("state x = [1];", "state w = [1];", (
                "1Main[2p 10=c[11B[12'b'] 13C[14'0']] 15try 19try(division by 0)[23B[24'b']] 25await[26C[27'0']]"
                " 31await..[32B[33'b'] 37p[38'w']] 39'end']")),
            ("state m = [1];", "", ""),
            ("state m = [1];", "state m = {};", full),
        ]:
            now = parse_program(TREE.replace(old, new))
            found = pruned([show.tree], show.program, now)
            self.assertEqual(short(found), wanted)
            self.assertFalse(shares(found, [show.tree]))
            self.assertEqual(short([show.tree]), full)

    def test_components_that_are_not_there_any_more(self):
        show = tree()
        now = parse_program("component Main(yes) { state m = 1; view {} } component C() { state z = 0; view {} }")
        self.assertEqual(short(pruned([show.tree], show.program, now)),
                         "1Main[2p 10=c[13C[14'0']] 15try 19try(division by 0) 25await[26C[27'0']]"
                         " 31await..[37p[38'w']] 39'end']")
        self.assertEqual(pruned([show.tree], show.program, parse_program("")), [])
        self.assertEqual(pruned([], show.program, show.program), [])

    def test_kids_that_are_hidden(self):
        show = Show("component Main(k) { view { await { <A/> <Asker k={k}/> } else { <A/> } } }"
                    " component A() { state x = 0; view { {x} } } component Asker(k) { resource r = k; view { {r} } }",
                    {"k": "a"})
        show.answers = [("a", ("value", "A"))]
        show.go()
        show.values = {"k": "b"}
        self.assertEqual(show.go(), "1Main[2await[3A[4'0'] 5Asker[6'A']]..[7A[8'0']]]")
        now = parse_program("component Main(k) { view {} } component Asker(k) { view {} }")
        self.assertEqual(short(pruned([show.tree], show.program, now)), "1Main[2await[5Asker[6'A']]..[]]")

    def test_nothing_is_shared_or_changed(self):
        show = tree()
        kept = told([show.tree])
        programs = copy.deepcopy(show.program)
        found = pruned([show.tree], show.program, show.program)
        found[0].cells[0].base.append(2)
        found[0].cells[0].value.append(2)
        found[0].kids.clear()
        found[0].env.clear()
        found[0].wanted.append(1)
        self.assertEqual(told([show.tree]), kept)
        self.assertEqual(show.program, programs)


class Stores(unittest.TestCase):
    NOW = "store b = [1]; store c = {x: 2}; store a = 3;"

    def test_kept(self):
        now = parse_program(self.NOW)
        self.assertEqual(list(kept_stores({"a": 9, "z": 1}, now).items()), [("b", [1]), ("c", {"x": 2}), ("a", 9)])
        self.assertEqual(kept_stores({"a": None, "b": False, "c": []}, now), {"a": None, "b": False, "c": []})
        self.assertEqual(kept_stores({}, now), {"b": [1], "c": {"x": 2}, "a": 3})
        self.assertEqual(kept_stores({"a": 1}, parse_program("")), {})

    def test_nothing_is_shared(self):
        now = parse_program(self.NOW)
        stores = {"b": [[5]]}
        found = kept_stores(stores, now)
        self.assertFalse(shares(found, stores))
        self.assertFalse(shares(found, now))
        found["b"][0].append(6)
        found["c"]["x"] = 7
        self.assertEqual((stores, now), ({"b": [[5]]}, parse_program(self.NOW)))
