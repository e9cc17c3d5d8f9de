"""Timers ([56])."""

import random
import unittest

from tests.helpers import block, shares
from viewloom.commits.timers import Timers

LOG = block("log(max(1, n));")


def start(timers, owner=1, now=0, ticks=5, again=False, lane=1, environment=None, statements=LOG, **more):
    return timers.start(owner, now=now, ticks=ticks, again=again, lane=lane, environment=environment or {},
                        block=statements, **more)


class Starting(unittest.TestCase):
    def test_none(self):
        timers = Timers()
        self.assertEqual((len(timers), timers.told, timers.next_due(), timers.fire()), (0, [], None, None))
        for call in (lambda: timers.end_run(1), lambda: timers.end_owners([1]), timers.clear):
            self.assertIsNone(call())

    def test_starting(self):
        timers = Timers()
        self.assertEqual(start(timers, now=3, ticks=7), 1)
        self.assertEqual(start(timers, now=3, ticks=2, again=True), 2)
        self.assertEqual(start(timers, now=3, ticks=0), 3)
        self.assertEqual((len(timers), timers.told, timers.next_due()), (3, [(3, 3, 0), (2, 5, 2), (1, 10, 0)], 3))

    def test_the_20th_and_one_more(self):
        timers = Timers()
        self.assertEqual([start(timers, ticks=50 - n) for n in range(22)], list(range(1, 21)) + [None, None])
        self.assertEqual(len(timers), 20)
        self.assertEqual([row[0] for row in timers.told], list(range(20, 0, -1)))
        # No number was used for those that were not started.
        timers.fire()
        self.assertEqual(len(timers), 19)
        self.assertEqual([start(timers), start(timers)], [21, None])

    def test_numbers_are_never_given_twice(self):
        timers = Timers()
        for _ in range(3):
            start(timers, owner=4, run=2)
        timers.fire()
        self.assertEqual(start(timers, owner=5), 4)
        timers.end_owners([4])
        self.assertEqual(start(timers, run=2), 5)
        timers.end_run(2)
        self.assertEqual(start(timers), 6)
        timers.clear()
        self.assertEqual(start(timers, again=True), 7)
        for _ in range(4):
            timers.fire()
        self.assertEqual(start(timers), 8)
        self.assertEqual([row[0] for row in timers.told], [8, 7])

    def test_timers_are_apart(self):
        first, second = Timers(), Timers()
        start(first)
        self.assertEqual((len(first), len(second), start(second)), (1, 0, 1))


class Firing(unittest.TestCase):
    def test_after(self):
        timers = Timers()
        start(timers, owner=7, now=2, ticks=3, lane=2, environment={"n": [1]}, run=9)
        self.assertEqual(timers.fire(), (7, 2, {"n": [1]}, LOG, 9))
        self.assertEqual((len(timers), timers.fire(), timers.next_due()), (0, None, None))
        start(timers)
        self.assertEqual(timers.fire(), (1, 1, {}, LOG, 0))

    def test_every(self):
        timers = Timers()
        start(timers, owner=7, now=2, ticks=3, again=True, lane=0, environment={"n": [1]})
        for due in (5, 8, 11):
            self.assertEqual((timers.told, timers.next_due()), ([(1, due, 3)], due))
            self.assertEqual(timers.fire(), (7, 0, {"n": [1]}, LOG, 0))
        self.assertEqual(len(timers), 1)

    def test_the_order(self):
        timers = Timers()
        for owner, ticks, again in [(1, 5, False), (2, 3, False), (3, 5, False), (4, 3, True), (5, 0, False), (6, 1, True)]:
            start(timers, owner=owner, ticks=ticks, again=again)
        self.assertEqual([timers.fire()[0] for _ in range(12)], [5, 6, 6, 2, 4, 6, 6, 1, 3, 6, 4, 6])
        # At 6 the one with the lower number comes first: owner 4 has number 4, owner 6 has number 6.
        self.assertEqual(timers.told, [(6, 7, 1), (4, 9, 3)])

    def test_random_timers(self):
        for seed in range(100):
            chance = random.Random(seed)
            timers, rows, last = Timers(), [], 0
            for _ in range(60):
                step = chance.choice(["start", "start", "fire", "fire", "run", "owners", "clear"])
                if step == "start":
                    owner, now, ticks = chance.randint(1, 4), chance.randint(0, 9), chance.randint(1, 9)
                    again, run = chance.random() < 0.5, chance.randint(0, 3)
                    number = start(timers, owner, now, ticks, again, run=run)
                    self.assertEqual(number, last + 1 if len(rows) < 20 else None)
                    if number:
                        last = number
                        rows.append([now + ticks, number, ticks if again else 0, owner, run])
                elif step == "fire":
                    rows.sort()
                    found = timers.fire()
                    self.assertEqual(found and (found[0], found[4]), tuple(rows[0][3:]) if rows else None)
                    if rows and rows[0][2]:
                        rows[0][0] += rows[0][2]
                    elif rows:
                        rows.pop(0)
                elif step == "run":
                    run = chance.randint(1, 3)
                    timers.end_run(run)
                    rows = [row for row in rows if row[4] != run]
                elif step == "owners":
                    owners = chance.sample(range(1, 6), chance.randint(0, 2))
                    timers.end_owners(owners)
                    rows = [row for row in rows if row[3] not in owners]
                elif chance.random() < 0.2:
                    timers.clear()
                    rows = []
                rows.sort()
                self.assertEqual(timers.told, [(number, due, period) for due, number, period, _, _ in rows])
                self.assertEqual(len(timers), len(rows))
                self.assertEqual(timers.next_due(), rows[0][0] if rows else None)


class Ending(unittest.TestCase):
    def timers(self):
        timers = Timers()
        for owner, run in [(1, 0), (2, 1), (1, 1), (3, 2), (2, 0)]:
            start(timers, owner=owner, run=run, again=owner == 2)
        return timers

    def numbers(self, timers):
        return [row[0] for row in timers.told]

    def test_end_run(self):
        for run, left in [(1, [1, 4, 5]), (2, [1, 2, 3, 5]), (3, [1, 2, 3, 4, 5])]:
            timers = self.timers()
            self.assertIsNone(timers.end_run(run))
            self.assertEqual(self.numbers(timers), left)

    def test_end_owners(self):
        for owners, left in [([1], [2, 4, 5]), ([2, 3], [1, 3]), ([], [1, 2, 3, 4, 5]), ([9], [1, 2, 3, 4, 5]),
                             ([1, 2, 3], [])]:
            timers = self.timers()
            kept = list(owners)
            self.assertIsNone(timers.end_owners(owners))
            self.assertEqual((self.numbers(timers), owners), (left, kept))

    def test_clear(self):
        timers = self.timers()
        self.assertIsNone(timers.clear())
        self.assertEqual((len(timers), timers.told, timers.next_due(), timers.fire()), (0, [], None, None))


class Sharing(unittest.TestCase):
    def test_what_is_returned_or_passed_may_be_changed(self):
        timers = Timers()
        environment, statements = {"n": [1]}, block("log(max(1, n)); stop;")
        start(timers, again=True, environment=environment, statements=statements)
        environment["n"].append(2)
        environment["m"] = 1
        statements.clear()
        first = timers.fire()
        self.assertEqual(first[2:4], ({"n": [1]}, block("log(max(1, n)); stop;")))
        first[2]["n"].append(3)
        first[2].clear()
        first[3][0][1].append(4)
        first[3].clear()
        timers.told.clear()
        second = timers.fire()
        self.assertEqual(second[2:4], ({"n": [1]}, block("log(max(1, n)); stop;")))
        self.assertFalse(shares(timers, second))
        self.assertEqual(len(timers), 1)
