"""Gestures, and the rehearsal at which they can be made ([63])."""

import copy
import unittest

from tests.events import Stage, page
from viewloom.events.gestures import choose, clear, click, enter
from viewloom.events.rehearsal import Rehearsal

# p 1: text 2; field 3; box 4 (text 5); select 6: option 7 (text 8), p 9: option 10 (box 11), option 12; off 13: field 14,
# box 15, select 16: option 17; area 18; text 19
PAGE = page(
    '<p>t</p><input default="d"></input><input kind="box">x</input>'
    '<select><option value="a">A</option><p><option value="b"><input kind="box"></input></option></p>'
    '<option value="c" disabled=""></option></select>'
    '<p disabled=""><input></input><input kind="box"></input><select><option value="a"></option></select></p>'
    '<area default="x"></area>z'
)
ALL = range(0, 22)


def made(gesture, number, *more, document=PAGE, changes=None, prevented=()):
    """Makes a gesture at a root, and returns the root."""
    root = Stage(document, changes, prevented)
    assert gesture(root, number, *more) is None
    return root


class RehearsalTest(unittest.TestCase):
    def test_fields(self):
        rehearsal = Rehearsal(PAGE)
        self.assertEqual((rehearsal.document, rehearsal.sent), (PAGE, []))
        self.assertEqual([rehearsal.controls.shown(number) for number in (3, 4, 6, 18, 1)],
                         ["d", False, "a", "x", None])
        self.assertEqual(len(rehearsal.controls), 8)

    def test_sending(self):
        prevented = ["click", "input", "change", "go"]
        rehearsal = Rehearsal(PAGE, prevented=prevented)
        prevented.clear()
        wanted = []
        for number, event, answer in [(3, "click", True), (3, "input", False), (1, "change", False), (99, "go", True),
                                      (14, "click", True), (3, "keydown", False)]:
            details = {"a": [1]}
            self.assertIs(rehearsal.send_event(number, event, details), answer)
            details["a"].append(2)
            wanted.append((number, event, {"a": [1]}))
            self.assertEqual(rehearsal.sent, wanted)
        self.assertIs(rehearsal.document, PAGE)
        self.assertIs(Rehearsal(PAGE, prevented=()).send_event(3, "click", {}), False)
        self.assertIs(Rehearsal(PAGE, prevented=("keyup",)).send_event(3, "keyup", {}), True)

    def test_gestures_at_a_rehearsal(self):
        rehearsal = Rehearsal(PAGE, prevented=("click",))
        for gesture, arguments in [(click, (4,)), (enter, (3, "xy")), (clear, (18,)), (choose, (6, "b"))]:
            self.assertIsNone(gesture(rehearsal, *arguments))
        self.assertEqual(rehearsal.sent, [
            (4, "click", {}),
            (3, "keydown", {"key": "x"}), (3, "input", {}), (3, "keyup", {"key": "x"}),
            (3, "keydown", {"key": "y"}), (3, "input", {}), (3, "keyup", {"key": "y"}), (3, "change", {}),
            (18, "input", {}), (18, "change", {}), (6, "input", {}), (6, "change", {}),
        ])
        self.assertEqual([rehearsal.controls.shown(number) for number in (3, 4, 6, 18)], ["dxy", False, "b", ""])

    def test_details_of_what_was_sent_are_apart(self):
        rehearsal = Rehearsal(PAGE)
        enter(rehearsal, 3, "a")
        rehearsal.sent[0][2].clear()
        self.assertEqual(rehearsal.sent[2], (3, "keyup", {"key": "a"}))


class WrongNodes(unittest.TestCase):
    def assert_silent(self, gesture, number, *more):
        root = made(gesture, number, *more)
        known = Stage(PAGE).controls.known
        self.assertEqual((root.sent, root.controls.known), ([], known), (gesture, number))

    def test_nothing_is_done(self):
        for number in ALL:
            if number not in (3, 18):
                self.assert_silent(enter, number, "ab")
                self.assert_silent(clear, number)
            if number != 6:
                self.assert_silent(choose, number, "a")
                self.assert_silent(choose, number, "b")
            if number not in (*range(1, 12), 18, 19):
                self.assert_silent(click, number)
        for number in (-1, 0, 99):
            for gesture, more in ((click, ()), (enter, ("a",)), (clear, ()), (choose, ("a",))):
                self.assert_silent(gesture, number, *more)


class Clicking(unittest.TestCase):
    def test_what_is_sent(self):
        for number, told in [
            (1, "1:click"), (2, "2:click"), (3, "3:click"), (4, "4:click 4:input 4:change"),
            (5, "5:click 4:input 4:change"), (6, "6:click"), (7, "7:click"), (8, "8:click"), (9, "9:click"),
            (10, "10:click 6:input 6:change"), (11, "11:click 11:input 11:change"), (18, "18:click"), (19, "19:click"),
        ]:
            root = made(click, number)
            self.assertEqual(root.told, told, number)
            self.assertTrue(all(details == {} for _, _, details in root.sent))

    def test_box(self):
        root = made(click, 4)
        self.assertIs(root.controls.shown(4), True)
        # It is turned before click is sent.
        self.assertEqual([known[4] for known in root.seen], [("box", True)] * 3)
        click(root, 5)
        self.assertIs(root.controls.shown(4), False)

    def test_prevented_box(self):
        root = made(click, 4, prevented=("click",))
        self.assertEqual((root.told, root.controls.shown(4)), ("4:click", False))
        self.assertEqual(root.seen[0][4], ("box", True))
        root = made(click, 5, prevented=("input", "change", "keydown"))
        self.assertEqual((root.told, root.controls.shown(4)), ("5:click 4:input 4:change", True))

    def test_bound_box(self):
        document = page('<input kind="box" checked="true"></input>')
        root = made(click, 1, document=document)
        self.assertEqual(root.told, "1:click 1:input 1:change")
        self.assertEqual([known[1] for known in root.seen], [("box", False)] * 3)
        # At the end it shows what it is bound to.
        self.assertIs(root.controls.shown(1), True)
        root = made(click, 1, document=document, prevented=("click",))
        self.assertIs(root.controls.shown(1), True)

    def test_option(self):
        root = made(click, 10)
        self.assertEqual(root.controls.shown(6), "b")
        self.assertEqual([known[6][1] for known in root.seen], ["a", "b", "b"])
        self.assertEqual(root.controls.shown(11), False)
        root = made(click, 10, prevented=("click",))
        self.assertEqual((root.told, root.controls.shown(6)), ("10:click", "a"))
        root = made(click, 7)
        self.assertEqual((root.told, root.controls.shown(6)), ("7:click", "a"))
        click(root, 10)
        click(root, 8)
        self.assertEqual((root.told, root.controls.shown(6)),
                         ("7:click 10:click 6:input 6:change 8:click 6:input 6:change", "a"))

    def test_box_within_an_option_and_the_other_way_round(self):
        root = made(click, 11)
        self.assertEqual((root.controls.shown(11), root.controls.shown(6)), (True, "a"))
        # select 1: option 2, box 3: option 4 (text 5)
        document = page('<select><option value="a"></option><input kind="box"><option value="b">B</option></input></select>')
        root = made(click, 5, document=document)
        self.assertEqual((root.told, root.controls.shown(1), root.controls.shown(3)),
                         ("5:click 1:input 1:change", "b", False))
        root = made(click, 3, document=document)
        self.assertEqual((root.told, root.controls.shown(1), root.controls.shown(3)),
                         ("3:click 3:input 3:change", "a", True))

    def test_option_without_value_without_select_within_two_selects(self):
        document = page('<option>x</option><select><option value="a"></option><option>none</option></select>')
        self.assertEqual(made(click, 1, document=document).told, "1:click")
        root = made(click, 2, document=document)
        self.assertEqual((root.told, root.controls.shown(3)), ("2:click", ""))
        root.controls.show(3, "a")
        click(root, 6)
        self.assertEqual((root.told, root.controls.shown(3)), ("2:click 6:click 3:input 3:change", ""))
        document = page('<select><option value="a"></option><select><option value="a"></option><p><option value="b">'
                        '</option></p></select></select>')
        root = made(click, 6, document=document)
        self.assertEqual((root.told, root.controls.shown(1), root.controls.shown(3)),
                         ("6:click 3:input 3:change", "a", "b"))

    def test_field_within_an_option_is_no_active_part(self):
        document = page('<select><option value="a"></option><option value="b"><input></input></option></select>')
        root = made(click, 4, document=document)
        self.assertEqual((root.told, root.controls.shown(1)), ("4:click 1:input 1:change", "b"))

    def test_controls_are_settled_at_the_end(self):
        document = page('<p></p><input value="v"></input>')
        root = Stage(document)
        root.controls.show(2, "typed")
        click(root, 1)
        self.assertEqual(root.controls.shown(2), "v")
        root.controls.show(2, "typed")
        click(root, 7)
        self.assertEqual(root.controls.shown(2), "typed")

    def test_the_box_goes_or_is_disabled(self):
        box = page('<input kind="box"></input>')
        off = page('<input kind="box" disabled=""></input>')
        for change, told in [((), "1:click"), (off, "1:click")]:
            for at in (1, 2):
                root = made(click, 1, document=box, changes={at: change})
                self.assertEqual(root.told, told + " 1:input" * (at - 1))
        root = made(click, 1, document=box, changes={2: off, 3: box})
        self.assertEqual((root.told, root.controls.shown(1)), ("1:click 1:input", True))
        # It is there again when change is to be sent.
        root = made(click, 1, document=box, changes={1: off})
        self.assertEqual((root.told, root.controls.shown(1)), ("1:click", True))

    def test_the_box_becomes_another_kind(self):
        box, field = page('<input kind="box"></input>'), page('<input default="d"></input>')
        root = made(click, 1, document=box, changes={1: field})
        self.assertEqual((root.told, root.controls.shown(1)), ("1:click 1:input 1:change", "d"))
        root = made(click, 1, document=box, changes={1: field}, prevented=("click",))
        self.assertEqual((root.told, root.controls.shown(1)), ("1:click", "d"))
        off = page('<input kind="box" disabled=""></input>')
        root = made(click, 1, document=box, changes={1: off}, prevented=("click",))
        self.assertEqual((root.told, root.controls.shown(1)), ("1:click", False))
        root = made(click, 1, document=box, changes={1: ()}, prevented=("click",))
        self.assertEqual((root.told, root.controls.shown(1)), ("1:click", None))
        bound = page('<input kind="box" checked="true"></input>')
        root = made(click, 1, document=box, changes={1: bound}, prevented=("click",))
        self.assertEqual((root.told, root.controls.shown(1)), ("1:click", True))

    def test_the_option_goes_is_disabled_or_moves(self):
        text = '<select><option value="a"></option><option value="b"></option></select><select></select>'
        document = page(text)
        option = document[0][4][1]
        without = page('<select><option value="a"></option></select>')[0]
        for change, told in [
            (page('<select><option value="a"></option></select>'), "3:click"),
            (page(text.replace('value="b"', 'disabled="" value="b"')), "3:click"),
            (page(text.replace("<select>", '<select disabled="">', 1)), "3:click"),
            (page('<select><option value="a"></option><p value="b"></p></select>'), "3:click"),
            (page('<select><option value="a"></option>x</select>'), "3:click"),
            (page('<p><option value="a"></option><option value="b"></option></p>'), "3:click"),
            (page(text.replace('"b"', '"z"')), "3:click 1:input 1:change"),
            ((without, ("element", 4, "select", (), (("element", 8, "p", (), (option,)),))), "3:click"),
            ((without, ("element", 4, "select", (), (("element", 9, "option", (), ()), option))),
             "3:click 4:input 4:change"),
        ]:
            root = made(click, 3, document=document, changes={1: change})
            self.assertEqual(root.told, told, change)
        root = made(click, 3, document=document, changes={1: page(text.replace('"b"', '"z"'))})
        self.assertEqual(root.controls.shown(1), "z")

    def test_the_select_goes_or_is_disabled_between_input_and_change(self):
        text = '<select><option value="a"></option><option value="b"></option></select>'
        for change, told in [((), "3:click 1:input"), (page(text.replace("<select>", '<select disabled="">')), "3:click 1:input"),
                             (page("<input></input>"), "3:click 1:input 1:change"),
                             (page("<p></p>"), "3:click 1:input 1:change")]:
            self.assertEqual(made(click, 3, document=page(text), changes={2: change}).told, told)
            root = made(choose, 1, "b", document=page(text), changes={1: change})
            self.assertEqual(root.told, told.replace("3:click ", ""))


class Entering(unittest.TestCase):
    FIELD = page("<input></input>")

    def test_what_is_sent(self):
        root = made(enter, 3, "ab")
        self.assertEqual(root.sent, [
            (3, "keydown", {"key": "a"}), (3, "input", {}), (3, "keyup", {"key": "a"}),
            (3, "keydown", {"key": "b"}), (3, "input", {}), (3, "keyup", {"key": "b"}), (3, "change", {}),
        ])
        self.assertEqual([known[3][1] for known in root.seen], ["d", "da", "da", "da", "dab", "dab", "dab"])
        self.assertEqual(made(enter, 18, "\n").told, "18:keydown\n 18:input 18:keyup\n 18:change")
        self.assertEqual(made(enter, 3, "").sent, [])

    def test_prevented_signs(self):
        root = made(enter, 1, "ab", document=self.FIELD, prevented=("keydown",))
        self.assertEqual((root.told, root.controls.shown(1)), ("1:keydowna 1:keyupa 1:keydownb 1:keyupb", ""))
        root = made(enter, 1, "a", document=self.FIELD, prevented=("keyup", "input", "change"))
        self.assertEqual((root.told, root.controls.shown(1)), ("1:keydowna 1:input 1:keyupa 1:change", "a"))

        class Choosy(Stage):
            def send_event(self, number, event, details):
                super().send_event(number, event, details)
                return details == {"key": "b"}

        root = Choosy(self.FIELD)
        enter(root, 1, "abcb")
        self.assertEqual(root.controls.shown(1), "ac")
        self.assertEqual(root.told, "1:keydowna 1:input 1:keyupa 1:keydownb 1:keyupb 1:keydownc 1:input 1:keyupc"
                                    " 1:keydownb 1:keyupb 1:change")

    def test_locked(self):
        locked = page('<input locked="" default="d"></input>')
        root = made(enter, 1, "ab", document=locked)
        self.assertEqual((root.told, root.controls.shown(1)), ("1:keydowna 1:keyupa 1:keydownb 1:keyupb", "d"))
        self.assertEqual(made(clear, 1, document=locked).sent, [])
        open_one = page('<input default="d"></input>')
        root = made(enter, 1, "ab", document=locked, changes={3: open_one})
        self.assertEqual(root.told, "1:keydowna 1:keyupa 1:keydownb 1:input 1:keyupb 1:change")
        root = made(enter, 1, "ab", document=open_one, changes={4: locked})
        self.assertEqual((root.told, root.controls.shown(1)),
                         ("1:keydowna 1:input 1:keyupa 1:keydownb 1:keyupb 1:change", "da"))

    def test_longest_text(self):
        for length, told, shown in [(1998, "1:keydowna 1:input 1:keyupa 1:keydownb 1:input 1:keyupb 1:change", 2000),
                                    (1999, "1:keydowna 1:input 1:keyupa 1:keydownb 1:keyupb 1:change", 2000),
                                    (2000, "1:keydowna 1:keyupa 1:keydownb 1:keyupb", 2000),
                                    (2100, "1:keydowna 1:keyupa 1:keydownb 1:keyupb", 2100)]:
            root = made(enter, 1, "ab", document=page(f'<input default="{"x" * length}"></input>'))
            self.assertEqual((root.told, len(root.controls.shown(1))), (told, shown), length)

    def test_bound_field(self):
        root = made(enter, 1, "ab", document=page('<input value="v"></input>'))
        # It shows again what it is bound to, so that each sign stands behind that, and no change is sent.
        self.assertEqual(root.told, "1:keydowna 1:input 1:keyupa 1:keydownb 1:input 1:keyupb")
        self.assertEqual([known[1][1] for known in root.seen], ["v", "va", "v", "v", "vb", "v"])

    def test_bound_field_that_follows(self):
        def follow(root):
            root.document = page(f'<input value="{root.controls.shown(1).upper()}"></input>')

        root = made(enter, 1, "ab", document=page('<input value=""></input>'), changes={2: follow, 5: follow})
        self.assertEqual((root.told, root.controls.shown(1)),
                         ("1:keydowna 1:input 1:keyupa 1:keydownb 1:input 1:keyupb 1:change", "AB"))

    def test_the_field_goes_is_disabled_or_becomes_another(self):
        off, area, box = page('<input disabled=""></input>'), page("<area></area>"), page('<input kind="box"></input>')
        select, other = page("<select></select>"), page("<p></p>")
        for changes, told in [
            ({1: ()}, "1:keydowna"), ({1: off}, "1:keydowna"), ({1: box}, "1:keydowna 1:keyupa"),
            ({1: select}, "1:keydowna 1:keyupa"), ({1: other}, "1:keydowna 1:keyupa"),
            ({1: area}, "1:keydowna 1:input 1:keyupa 1:keydownb 1:input 1:keyupb 1:change"),
            ({2: ()}, "1:keydowna 1:input"), ({2: off}, "1:keydowna 1:input"), ({2: box}, "1:keydowna 1:input 1:keyupa"),
            ({2: area}, "1:keydowna 1:input 1:keyupa 1:keydownb 1:input 1:keyupb 1:change"),
            ({3: ()}, "1:keydowna 1:input 1:keyupa"), ({3: off}, "1:keydowna 1:input 1:keyupa"),
            ({3: box}, "1:keydowna 1:input 1:keyupa"),
            ({6: off}, "1:keydowna 1:input 1:keyupa 1:keydownb 1:input 1:keyupb"),
            ({1: off, 2: self.FIELD}, "1:keydowna"), ({2: off, 3: self.FIELD}, "1:keydowna 1:input"),
        ]:
            root = made(enter, 1, "ab", document=self.FIELD, changes=changes)
            self.assertEqual(root.told, told, changes)

    def test_change_compares_with_the_beginning(self):
        def restore(root):
            root.controls.show(1, "d")

        filled = page('<input default="d"></input>')
        root = made(enter, 1, "a", document=filled, changes={3: restore})
        self.assertEqual(root.told, "1:keydowna 1:input 1:keyupa")
        root = made(enter, 1, "a", document=filled, changes={1: lambda root: root.controls.show(1, "zz")},
                    prevented=("keydown",))
        self.assertEqual((root.told, root.controls.shown(1)), ("1:keydowna 1:keyupa 1:change", "zz"))


class ClearingAndChoosing(unittest.TestCase):
    def test_clear(self):
        root = made(clear, 3)
        self.assertEqual((root.sent, root.controls.shown(3)), ([(3, "input", {}), (3, "change", {})], ""))
        self.assertEqual([known[3][1] for known in root.seen], ["", ""])
        clear(root, 3)
        self.assertEqual(len(root.sent), 2)
        self.assertEqual(made(clear, 18).told, "18:input 18:change")

    def test_clear_of_a_bound_field(self):
        root = made(clear, 1, document=page('<input value="v"></input>'))
        self.assertEqual((root.told, root.controls.shown(1)), ("1:input", "v"))
        root = made(clear, 1, document=page('<input value="v"></input>'), changes={1: page('<input value=""></input>')})
        self.assertEqual((root.told, root.controls.shown(1)), ("1:input 1:change", ""))

    def test_the_field_goes_or_is_disabled(self):
        filled = page('<input default="d"></input>')
        for change in ((), page('<input disabled=""></input>'), page('<input kind="box"></input>'), page("<p></p>")):
            self.assertEqual(made(clear, 1, document=filled, changes={1: change}).told, "1:input")
        root = made(clear, 1, document=filled, changes={1: page('<input locked=""></input>')})
        self.assertEqual(root.told, "1:input 1:change")

    def test_choose(self):
        root = made(choose, 6, "b")
        self.assertEqual((root.sent, root.controls.shown(6)), ([(6, "input", {}), (6, "change", {})], "b"))
        for value, count in [("b", 2), ("c", 2), ("zz", 2), ("", 2), ("a", 4)]:
            choose(root, 6, value)
            self.assertEqual(len(root.sent), count, value)
        self.assertEqual(root.controls.shown(6), "a")

    def test_choose_what_is_shown_already(self):
        self.assertEqual(made(choose, 6, "a").sent, [])
        bound = page('<select value="b"><option value="a"></option><option value="b"></option></select>')
        self.assertEqual(made(choose, 1, "b", document=bound).sent, [])
        root = made(choose, 1, "a", document=bound)
        self.assertEqual((root.told, root.controls.shown(1)), ("1:input 1:change", "b"))
        self.assertEqual([known[1][1] for known in root.seen], ["a", "a"])

    def test_choose_among_options(self):
        document = page('<select><option>x</option><option value="a" disabled=""></option><p><select>'
                        '<option value="b"></option></select></p><option value="a"></option></select>')
        for number, value, told in [(1, "a", "1:input 1:change"), (1, "", ""), (1, "b", "1:input 1:change"), (1, "x", ""),
                                    (6, "b", ""), (6, "a", ""), (6, "", "")]:
            self.assertEqual(made(choose, number, value, document=document).told, told, (number, value))

    def test_nothing_that_is_passed_changes(self):
        document = copy.deepcopy(PAGE)
        root = Stage(document)
        for gesture, arguments in [(click, (4,)), (enter, (3, "xy")), (clear, (18,)), (choose, (6, "b"))]:
            gesture(root, *arguments)
        self.assertEqual(document, PAGE)
        self.assertIs(root.document, document)
