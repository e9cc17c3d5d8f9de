"""Timers."""

from viewloom.values.copies import copied_names, copied_source

MOST_TIMERS = 20


class Timer:
    """A timer that runs; its period is 0 if it ends when it fires."""

    def __init__(self, number, due, period, owner, performed):
        self.number = number
        self.due = due
        self.period = period
        self.owner = owner
        # The lane, the environment, the block, and the run to which it belongs.
        self.performed = performed

    def belongs_to(self, run):
        """Returns whether the timer belongs to a run."""
        return self.performed[3] == run


class Timers:
    """The timers that run, in the order in which they fire."""

    def __init__(self):
        self.running = []
        self.last = 0

    def __len__(self):
        """Returns the number of timers."""
        return len(self.running)

    @property
    def told(self):
        """The list of the numbers, due ticks and periods of the timers."""
        return [(timer.number, timer.due, timer.period) for timer in self.running]

    def start(self, owner, *, now, ticks, again, lane, environment, block, run=0):
        """Starts a timer, unless as many as can run do; returns its number or None."""
        if len(self.running) >= MOST_TIMERS:
            return None
        self.last += 1
        performed = (lane, copied_names(environment), copied_source(block), run)
        timer = Timer(self.last, now + ticks, ticks if again else 0, owner, performed)
        self.put(timer)
        return timer.number

    def put(self, timer):
        """Puts a timer to its place among those that run."""
        earlier = [other for other in self.running if (other.due, other.number) < (timer.due, timer.number)]
        self.running.insert(len(earlier), timer)

    def next_due(self):
        """Returns the tick at which the timer that fires next is due, or None."""
        if not self.running:
            return None
        return self.running[0].due

    def fire(self):
        """Ends or renews the timer that fires next; returns what it performs, or None."""
        if not self.running:
            return None
        timer = self.running.pop(0)
        if timer.period > 0:
            timer.due += timer.period
            self.put(timer)
        lane, environment, block, run = timer.performed
        return (timer.owner, lane, copied_names(environment), copied_source(block), run)

    def end_run(self, run):
        """Ends the timers that belong to a run."""
        self.running = [timer for timer in self.running if not timer.belongs_to(run)]

    def end_owners(self, ids):
        """Ends the timers of some owners."""
        self.running = [timer for timer in self.running if timer.owner not in ids]

    def clear(self):
        """Ends all timers."""
        self.running = []
