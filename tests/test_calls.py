"""Texts of calls, and recordings ([71], [72])."""

import copy
import json
import random
import unittest

from viewloom.errors import InvalidRecording, ViewError
from viewloom.tools.calls import read_call, read_recording, write_call
from viewloom.values.plain import same


def nested(levels, inner=None, record=False):
    """A list (or record) of a depth."""
    value = ({} if record else []) if inner is None else inner
    for _ in range(levels - 1):
        value = {"a": value} if record else [value]
    return value


WRITTEN = [
    ("a", [], '["a"]'),
    ("root", ["Main", {}], '["root","Main",{}]'),
    ("x y", [None, True, False], '["x y",null,true,false]'),
    ("n", [0, 1, -1, 10, -205, 10 ** 30, -10 ** 30], f'["n",0,1,-1,10,-205,{10 ** 30},-{10 ** 30}]'),
    ("t", ["", "a", " b ", "null"], '["t",""' + ',"a"," b ","null"]'),
    ("s", ['"', "\\", "\n", '\\n"', "/", "'", "<&>", "{}[],:"], '["s","\\"","\\\\","\\n","\\\\n\\"","/","\'","<&>","{}[],:"]'),
    ("l", [[], [1], [1, [2, []]]], '["l",[],[1],[1,[2,[]]]]'),
    ("r", [{}, {"b": 1, "a": {"": [None]}}], '["r",{},{"b":1,"a":{"":[null]}}]'),
    ('"\n', [{'"\n': "x"}], '["\\"\\n",{"\\"\\n":"x"}]'),
]


class Calls(unittest.TestCase):
    def test_written_and_read(self):
        for name, values, text in WRITTEN:
            kept = copy.deepcopy(values)
            self.assertEqual(write_call(name, values), text)
            found = read_call(text)
            self.assertEqual(found, (name, values))
            self.assertTrue(same(found[1], values))
            self.assertIs(type(found), tuple)
            self.assertEqual(values, kept)

    def test_order_of_fields(self):
        self.assertEqual(write_call("a", [{"z": 1, "a": 2, "m": 3}]), '["a",{"z":1,"a":2,"m":3}]')
        self.assertEqual(list(read_call('["a",{"z":1,"a":2,"m":3}]')[1][0]), ["z", "a", "m"])

    def test_every_sign(self):
        signs = "".join(chr(code) for code in range(32, 127) if code != 37)
        for sign in signs + "\n":
            text = write_call("a", [sign])
            escaped = {'"': '\\"', "\\": "\\\\", "\n": "\\n"}.get(sign, sign)
            self.assertEqual(text, f'["a","{escaped}"]')
            self.assertEqual(read_call(text), ("a", [sign]))

    def test_depth(self):
        for record in (False, True):
            for value, fits in [(nested(20, record=record), True), (nested(21, record=record), False),
                                (nested(20, 1, record), True), (nested(21, 1, record), False),
                                (nested(20, "x", record), True), (nested(21, None, record), False),
                                (nested(40, record=record), False)]:
                text = write_call("a", [1, value, 2])
                self.assertEqual(text, json.dumps(["a", 1, value, 2], separators=(",", ":")))
                self.assertEqual(read_call(text), ("a", [1, value, 2]) if fits else None)
        self.assertIsNone(read_call('["a",' + "[" * 5000))
        self.assertIsNone(read_call("[" * 5000 + "]" * 5000))
        self.assertIsNone(read_call('["a",' + '{"x":' * 3000))

    def test_what_is_no_text_of_a_call(self):
        for text in [
            "", " ", "a", '"a"', "null", "1", "{}", '{"a":1}', "[]", '[""]', "[1]", "[null]", "[true]", '[["a"]]', '[{}]',
            '["a"', '["a",', '["a",]', '["a",1', '["a" ]', '[ "a"]', ' ["a"]', '["a"] ', '["a"]\n', '["a"]]', '["a"],',
            '["a"]["a"]', '["a", 1]', '["a",1 ]', '["a" ,1]', '["a",,1]', '[,"a"]', '["a"1]', '["a""b"]', "['a']",
            '["a",[1,]]', '["a",[,1]]', '["a",[ ]]', '["a",[1 ]]', '["a",[1}]', '["a",[1]', '["a",1]]', '["a",(1)]',
            '["a",{ }]', '["a",{"x"}]', '["a",{"x":}]', '["a",{"x":1,}]', '["a",{"x": 1}]', '["a",{"x" :1}]',
            '["a",{x:1}]', '["a",{1:1}]', '["a",{"x":1]', '["a",{"x":1', '["a",{"x":1,"x":1}]', '["a",{"x":1,"y":2,"x":1}]',
            '["a",{,}]', '["a",{"x"1}]', '["a",{"x":1"y":2}]', '["a",{"x":1;"y":2}]', '["a",{"\\n":1,"\\n":1}]',
            '["a",01]', '["a",00]', '["a",-0]', '["a",-01]', '["a",--1]', '["a",-]', '["a",+1]', '["a",1.0]', '["a",.5]',
            '["a",1e3]', '["a",1E3]', '["a",0x1]', '["a",- 1]', '["a",1-]', '["a",1_0]', '["a",NaN]', '["a",Infinity]',
            f'["a",{10 ** 30 + 1}]', f'["a",-{10 ** 30 + 1}]', '["a",' + "9" * 5000 + "]", '["a",' + "0" * 40 + "]",
            '["a",None]', '["a",True]', '["a",Null]', '["a",nul]', '["a",nulll]', '["a",tru]', '["a",truefalse]',
            '["a","x]', '["a","\\"]', '["a","\\t"]', '["a","\\/"]', '["a","\\u0041"]', '["a","\\b"]', '["a","\\r"]',
            '["a","\\N"]', '["a","\\\n"]', '["a","\n"]', '["a\n"]', '["a","x\ny"]', '["a","x""]', '["a",x]', '["a";1]',
            '["a",{"x\n":1}]', '["a",{"\\t":1}]', '["a",{"x:1}]', '["a",["x]]', '["a",\'x\']',
        ]:
            self.assertIsNone(read_call(text), text)

    def test_cut_off_and_changed_by_a_sign(self):
        for name, values, text in WRITTEN:
            for at in range(len(text)):
                self.assertIsNone(read_call(text[:at]), text[:at])
                for sign in (" ", "\n", "0", '"', "\\", ",", "]", "[", "-", "n"):
                    for other in (text[:at] + sign + text[at:], text[:at] + sign + text[at + 1:], text[:at] + text[at + 1:]):
                        found = read_call(other)
                        # What is read is exactly what is written so.
                        if found is not None:
                            self.assertEqual(write_call(*found), other)
            self.assertIsNone(read_call(text + "]"))
            self.assertIsNone(read_call(text + " "))

    def test_by_chance(self):
        def value(chance, room):
            word = chance.randint(0, 6 if room else 4)
            if word < 3:
                return [None, True, False][word]
            if word == 3:
                return chance.choice([0, 7, -7, 10 ** 30, -10 ** 29])
            if word == 4:
                return "".join(chance.choice('ab"\\\n[],:{} n') for _ in range(chance.randint(0, 5)))
            if word == 5:
                return [value(chance, room - 1) for _ in range(chance.randint(0, 3))]
            return {chance.choice(['a', 'b"', "c\\", "\n", ""]): value(chance, room - 1) for _ in range(chance.randint(0, 3))}

        for seed in range(500):
            chance = random.Random(seed)
            values = [value(chance, 3) for _ in range(chance.randint(0, 4))]
            text = write_call("name", values)
            self.assertEqual(json.loads(text), ["name", *values])
            found = read_call(text)
            self.assertTrue(same(found[1], values))
            self.assertEqual(write_call(*found), text)


class Recordings(unittest.TestCase):
    FIRST = '["root","Main",{"a":1}]'

    def wrong(self, texts):
        kept = list(texts)
        with self.assertRaises(InvalidRecording, msg=texts) as caught:
            read_recording(texts)
        self.assertIsInstance(caught.exception, ViewError)
        self.assertEqual(texts, kept)
        return caught.exception.index

    def test_right_ones(self):
        self.assertEqual(read_recording([self.FIRST]), [("root", ["Main", {"a": 1}])])
        self.assertEqual(read_recording([self.FIRST, '["work",3]', '["anything"]', '["work",3]']),
                         [("root", ["Main", {"a": 1}]), ("work", [3]), ("anything", []), ("work", [3])])

    def test_wrong_beginnings(self):
        for text in ["", "root", '["root"]', '["root","Main"]', '["root","Main",{},1]', '["root",1,{}]', '["root","Main",[]]',
                     '["root","Main",null]', '["root",{},"Main"]', '["work",1]', '["Root","Main",{}]', '["root", "Main",{}]',
                     '["root","Main",{}]]']:
            for more in ([], ['["work",1]'], ["bad"], [self.FIRST]):
                self.assertEqual(self.wrong([text, *more]), 0, text)
        self.assertEqual(self.wrong([]), 0)

    def test_wrong_entries(self):
        good = '["work",1]'
        for text in ["", "work", '["work", 1]', '[""]', "[]", self.FIRST, '["root"]', '["root",1,2]', '["work",01]']:
            for index in (1, 2, 3):
                texts = [self.FIRST] + [good] * (index - 1) + [text]
                self.assertEqual(self.wrong(texts), index, text)
                self.assertEqual(self.wrong(texts + [good, "bad"]), index, text)

    def test_what_is_returned_may_be_changed(self):
        texts = [self.FIRST, '["store","x",[1]]']
        found = read_recording(texts)
        found[0][1][1]["a"] = 2
        found[1][1].clear()
        self.assertEqual(read_recording(texts), [("root", ["Main", {"a": 1}]), ("store", ["x", [1]])])
