"""Which lanes are pending, and which pass is next."""

from viewloom.errors import UnknownLane


def lane_number(name):
    """Returns the lane of a word."""
    for lane, word in enumerate(Schedule.NAMES):
        if word == name:
            return lane
    raise UnknownLane(name)


class Schedule:
    """The lanes that are pending, and the portions of the present pass that are done."""

    SYNC = 0
    USUAL = 1
    TRANSITION = 2
    IDLE = 3
    PATIENCE = (0, 5000, 10000, 60000)
    NAMES = ("sync", "usual", "transition", "idle")

    def __init__(self):
        # The lanes that are pending, with the ticks since which they are.
        self.ticks = {}
        self.portions = 0

    @property
    def pending(self):
        """The list of the pending lanes with their ticks, in ascending order of the lanes."""
        return sorted(list(self.ticks.items()))

    @property
    def done(self):
        """The number of portions of the present pass that are done."""
        return self.portions

    def __contains__(self, lane):
        """Returns whether a lane is pending."""
        return lane in self.ticks

    def wake(self, lane, *, now):
        """Wakes a lane."""
        if not [other for other in self.ticks if other < lane]:
            # Its own pass, or that of a lane below it, is the present one.
            self.portions = 0
        self.ticks.setdefault(lane, now)

    def is_overdue(self, lane, *, now):
        """Returns whether a lane is pending and overdue."""
        return lane in self.ticks and self.ticks[lane] + self.PATIENCE[lane] <= now

    def next_pass(self, *, now):
        """Returns None, or the list of the lanes of the next pass and whether it is whole."""
        lanes = sorted(list(self.ticks))
        if not lanes:
            return None
        overdue = [lane for lane in lanes if self.is_overdue(lane, now=now)]
        if not overdue:
            return (lanes[:1], False)
        return ([lane for lane in lanes if lane <= overdue[-1]], True)

    def portion(self, cost):
        """Counts one more portion of the present pass, and returns whether as many as it costs are done."""
        if self.ticks:
            self.portions += 1
        return self.portions >= cost

    def give_up(self):
        """Gives the present pass up."""
        self.portions = 0

    def end(self, lanes):
        """Ends a pass with these lanes."""
        self.ticks = {lane: self.ticks[lane] for lane in self.ticks if lane not in lanes}
        self.portions = 0

    def clear(self):
        """Lets no lane be pending any more."""
        self.ticks = {}
        self.portions = 0
