"""Lanes and schedules ([39] to [43])."""

import random
import unittest

from viewloom.errors import UnknownLane, ViewError
from viewloom.lanes.schedule import Schedule, lane_number

PATIENCE = (0, 5000, 10000, 60000)


def made(*ticks):
    """Returns a schedule in which lanes are pending since ticks: pairs (lane, tick), in ascending order of ticks."""
    schedule = Schedule()
    for lane, tick in ticks:
        schedule.wake(lane, now=tick)
    return schedule


class Lanes(unittest.TestCase):
    def test_class_values(self):
        for owner in (Schedule, Schedule()):
            self.assertEqual((owner.SYNC, owner.USUAL, owner.TRANSITION, owner.IDLE), (0, 1, 2, 3))
            self.assertEqual(owner.PATIENCE, PATIENCE)
            self.assertEqual(owner.NAMES, ("sync", "usual", "transition", "idle"))

    def test_lane_number(self):
        self.assertEqual([lane_number(name) for name in Schedule.NAMES], [0, 1, 2, 3])
        for name in ["", "Sync", "syn", "sync ", "0", "later", "idle\n", "usual,idle"]:
            with self.assertRaises(UnknownLane) as caught:
                lane_number(name)
            self.assertIsInstance(caught.exception, ViewError)


class Waking(unittest.TestCase):
    def test_nothing_is_pending_at_first(self):
        schedule = Schedule()
        self.assertEqual(schedule.pending, [])
        self.assertEqual(schedule.done, 0)
        self.assertIsNone(schedule.next_pass(now=0))
        self.assertIsNone(schedule.next_pass(now=10 ** 9))
        for lane in range(4):
            self.assertIs(lane in schedule, False)
            self.assertIs(schedule.is_overdue(lane, now=10 ** 9), False)

    def test_waking(self):
        schedule = Schedule()
        self.assertIsNone(schedule.wake(2, now=7))
        self.assertEqual(schedule.pending, [(2, 7)])
        schedule.wake(0, now=7)
        schedule.wake(3, now=9)
        self.assertEqual(schedule.pending, [(0, 7), (2, 7), (3, 9)])
        self.assertEqual([lane in schedule for lane in range(4)], [True, False, True, True])
        # A lane that is pending keeps its tick.
        schedule.wake(2, now=100)
        schedule.wake(0, now=100)
        self.assertEqual(schedule.pending, [(0, 7), (2, 7), (3, 9)])
        schedule.end([2])
        schedule.wake(2, now=100)
        self.assertEqual(schedule.pending, [(0, 7), (2, 100), (3, 9)])

    def test_patience(self):
        for lane in range(4):
            for since in (0, 1, 123):
                schedule = made((lane, since))
                due = since + PATIENCE[lane]
                for now in range(max(since, due - 2), due):
                    self.assertIs(schedule.is_overdue(lane, now=now), False)
                    self.assertEqual(schedule.next_pass(now=now), ([lane], False))
                for now in (due, due + 1, due + 10 ** 6):
                    self.assertIs(schedule.is_overdue(lane, now=now), True)
                    self.assertEqual(schedule.next_pass(now=now), ([lane], True))
                for other in range(4):
                    self.assertIs(schedule.is_overdue(other, now=due), other == lane)

    def test_next_pass(self):
        for ticks, now, expected in [
            ([(1, 0), (2, 0), (3, 0)], 0, ([1], False)), ([(2, 0), (3, 0)], 4999, ([2], False)),
            ([(1, 0), (2, 0), (3, 0)], 5000, ([1], True)), ([(1, 0), (2, 0), (3, 0)], 9999, ([1], True)),
            ([(1, 0), (2, 0), (3, 0)], 10000, ([1, 2], True)), ([(1, 0), (2, 0), (3, 0)], 60000, ([1, 2, 3], True)),
            ([(0, 0), (1, 0)], 0, ([0], True)), ([(0, 0), (3, 0)], 100, ([0], True)),
            # The lowest overdue one takes all above it along, overdue or not.
            ([(2, 0), (1, 9999)], 9999, ([1], False)), ([(2, 0), (1, 9999)], 10000, ([1, 2], True)),
            ([(3, 0), (1, 59999), (2, 59999)], 60000, ([1, 2, 3], True)),
            ([(3, 0), (2, 59999), (0, 60000)], 60000, ([0, 2, 3], True)),
            ([(3, 1), (2, 50000), (0, 60000)], 60000, ([0, 2], True)),
            ([(1, 0), (3, 0), (2, 4000)], 5000, ([1], True)),
        ]:
            self.assertEqual(made(*ticks).next_pass(now=now), expected, (ticks, now))


class Portions(unittest.TestCase):
    def test_portions(self):
        schedule = made((1, 0), (2, 0))
        self.assertIs(schedule.portion(3), False)
        self.assertIs(schedule.portion(3), False)
        self.assertEqual(schedule.done, 2)
        self.assertIs(schedule.portion(3), True)
        self.assertIs(schedule.portion(3), True)
        self.assertEqual(schedule.done, 4)
        self.assertIs(schedule.portion(9), False)
        self.assertIs(schedule.portion(6), True)
        self.assertIs(made((3, 0)).portion(1), True)

    def test_no_portion_if_no_lane_is_pending(self):
        schedule = Schedule()
        self.assertIs(schedule.portion(1), False)
        self.assertIs(schedule.portion(5), False)
        self.assertEqual(schedule.done, 0)
        schedule.wake(1, now=0)
        self.assertEqual(schedule.done, 0)
        self.assertIs(schedule.portion(2), False)

    def test_giving_up(self):
        for woken, done in [(0, 0), (1, 0), (2, 2), (3, 2)]:
            for others in ([], [3]):
                schedule = made((1, 0), *[(lane, 0) for lane in others])
                schedule.portion(5)
                schedule.portion(5)
                schedule.wake(woken, now=4)
                self.assertEqual(schedule.done, done, (woken, others))
        schedule = made((2, 0), (3, 0))
        schedule.portion(5)
        schedule.wake(3, now=0)
        self.assertEqual(schedule.done, 1)
        # The tick of a lane that is pending stays, and yet the pass is given up.
        schedule.wake(2, now=5)
        self.assertEqual((schedule.done, schedule.pending), (0, [(2, 0), (3, 0)]))
        schedule.portion(5)
        self.assertIsNone(schedule.give_up())
        self.assertEqual((schedule.done, schedule.pending), (0, [(2, 0), (3, 0)]))

    def test_the_present_pass_while_a_whole_pass_is_next(self):
        schedule = made((3, 0), (1, 60000))
        schedule.portion(5)
        self.assertEqual(schedule.next_pass(now=60000), ([1, 3], True))
        self.assertEqual(schedule.done, 1)
        # The present pass is that of lane 1 alone.
        schedule.wake(2, now=60000)
        self.assertEqual(schedule.done, 1)
        schedule.wake(3, now=60000)
        self.assertEqual(schedule.done, 1)
        self.assertIs(schedule.portion(2), True)
        schedule.wake(1, now=60000)
        self.assertEqual(schedule.done, 0)
        schedule.portion(2)
        self.assertIsNone(schedule.end([1, 2, 3]))
        self.assertEqual((schedule.done, schedule.pending), (0, []))

    def test_ending(self):
        for ended, left in [([1], [(2, 3), (3, 3)]), ([1, 2, 3], []), ([0], [(1, 0), (2, 3), (3, 3)]),
                            ([0, 2], [(1, 0), (3, 3)]), ([3], [(1, 0), (2, 3)]),
                            ([], [(1, 0), (2, 3), (3, 3)]), ([0, 1, 2, 3], [])]:
            schedule = made((1, 0), (2, 3), (3, 3))
            schedule.portion(9)
            kept = list(ended)
            self.assertIsNone(schedule.end(ended))
            self.assertEqual(ended, kept)
            self.assertEqual((schedule.pending, schedule.done), (left, 0))
            self.assertEqual([lane in schedule for lane in range(4)], [lane in dict(left) for lane in range(4)])

    def test_clear(self):
        schedule = made((1, 0), (2, 3))
        schedule.portion(9)
        self.assertIsNone(schedule.clear())
        self.assertEqual((schedule.pending, schedule.done), ([], 0))
        self.assertIsNone(schedule.next_pass(now=10 ** 6))
        schedule.wake(2, now=50)
        self.assertEqual((schedule.pending, schedule.done), ([(2, 50)], 0))

    def test_what_is_returned_may_be_changed(self):
        schedule = made((1, 0), (3, 3))
        schedule.pending.clear()
        schedule.next_pass(now=0)[0].clear()
        schedule.next_pass(now=10 ** 6)[0].append(2)
        self.assertEqual(schedule.pending, [(1, 0), (3, 3)])
        self.assertEqual(schedule.next_pass(now=0), ([1], False))
        self.assertEqual(schedule.next_pass(now=10 ** 6), ([1, 3], True))
        lanes = [1]
        schedule.end(lanes)
        lanes.append(3)
        self.assertEqual(schedule.pending, [(3, 3)])

    def test_schedules_are_apart(self):
        first, second = Schedule(), Schedule()
        first.wake(1, now=0)
        first.portion(2)
        self.assertEqual((second.pending, second.done), ([], 0))


class Walks(unittest.TestCase):
    """A schedule, step by step, beside its words."""

    def test_random_steps(self):
        for seed in range(200):
            chance = random.Random(seed)
            schedule, since, done, now = Schedule(), {}, 0, 0
            for _ in range(40):
                step = chance.choice(["wake", "wake", "portion", "portion", "time", "end", "whole", "give_up", "clear"])
                upper = min(since, default=4)
                if step == "wake":
                    lane = chance.randrange(4)
                    done = done if lane > upper else 0
                    since.setdefault(lane, now)
                    schedule.wake(lane, now=now)
                elif step == "portion":
                    done += bool(since)
                    cost = chance.randint(1, 4)
                    self.assertIs(schedule.portion(cost), done >= cost)
                elif step == "time":
                    now += chance.choice([0, 1, 4999, 5000, 10000, 50000])
                elif step in ("end", "whole"):
                    lanes = chance.sample(range(4), chance.randint(0, 4)) if step == "end" else None
                    if lanes is None:
                        lanes = (schedule.next_pass(now=now) or ([], True))[0]
                    since = {lane: tick for lane, tick in since.items() if lane not in lanes}
                    done = 0
                    schedule.end(lanes)
                elif step == "give_up":
                    done = 0
                    schedule.give_up()
                elif chance.random() < 0.3:
                    since, done = {}, 0
                    schedule.clear()
                self.check(schedule, since, done, now)

    def check(self, schedule, since, done, now):
        self.assertEqual(schedule.pending, sorted(since.items()))
        self.assertEqual(schedule.done, done)
        overdue = [lane for lane in sorted(since) if since[lane] + PATIENCE[lane] <= now]
        for lane in range(4):
            self.assertIs(schedule.is_overdue(lane, now=now), lane in overdue)
        expected = None
        if since:
            expected = ([min(since)], False)
        if overdue:
            expected = ([lane for lane in sorted(since) if lane <= max(overdue)], True)
        self.assertEqual(schedule.next_pass(now=now), expected)
