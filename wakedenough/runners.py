"""The told runners, and how a runner is led along a row."""

from wakedenough.works import NOTHING, high_of, low_of, work_after


class SightRunner:
    """A runner of needs that stays on for some ticks, and then as long as it sees that it is needed."""

    def __init__(self, b, w):
        self.idle_ticks = b - 1 - w
        self.sight = w
        self.at = 0
        self.told = 0
        # Of the last ticks only those whose needs are above all later ones: so the first is the greatest.
        self.lately = []

    def look(self, seen):
        """Return how many machines are to be on, and go on by a tick."""
        need = seen[0]
        greatest = max(seen[1:self.sight + 1], default=0)
        if self.lately:
            greatest = max(greatest, self.lately[0][1])
        self.told = max(need, min(self.told, greatest))
        self.remember(need)
        return self.told

    def remember(self, need):
        """Go on to the next tick, and keep the need of this one as long as it counts."""
        while self.lately and self.lately[-1][1] <= need:
            self.lately.pop()
        self.lately.append((self.at, need))
        self.at += 1
        if self.lately[0][0] < self.at - self.idle_ticks:
            self.lately.pop(0)


def inner_low(work):
    """Return the greatest x at which a work has its least worth."""
    return work[0] + len([slope for slope in work[3] if slope <= 0])


def inner_high(work, b):
    """Return the least x of a work from which its slope is at least b, or its greatest x."""
    return work[0] + len([slope for slope in work[3] if slope < b])


def brought(x, low, high):
    """Return the number from low to high that is nearest to x."""
    return min(max(x, low), high)


class LazyRunner:
    """A runner of slots that moves as little as it can, between LOW and HIGH."""

    def __init__(self, b):
        self.b = b
        self.work_ahead = NOTHING
        self.told = 0

    def look(self, seen):
        """Return how many machines are to be on, and go on by a tick."""
        self.work_ahead = work_after(self.work_ahead, seen[0], self.b)
        self.told = brought(self.told, low_of(self.work_ahead), high_of(self.work_ahead, self.b))
        return self.told


class InnerRunner:
    """A runner of slots that moves as little as it can, between INNER LOW and INNER HIGH."""

    def __init__(self, b):
        self.b = b
        self.work_ahead = NOTHING
        self.told = 0

    def look(self, seen):
        """Return how many machines are to be on, and go on by a tick."""
        self.work_ahead = work_after(self.work_ahead, seen[0], self.b)
        self.told = brought(self.told, inner_low(self.work_ahead), inner_high(self.work_ahead, self.b))
        return self.told


class CallRunner:
    """A runner that returns what a function tells of what is seen."""

    def __init__(self, call):
        self.call = call

    def look(self, seen):
        """Return what the function returns for what is seen."""
        call = self.call
        return call(seen)


class RuleRunner:
    """A runner of needs that goes through the states of a rule."""

    def __init__(self, rule):
        self.rule = rule
        self.state_at = 0

    def look(self, seen):
        """Return how many machines are to be on, and go on to the late state."""
        x, self.state_at = self.rule[1][self.state_at][seen[0]]
        return x


class RowRunner:
    """A runner that returns the numbers of a row, one after another."""

    def __init__(self, row):
        self.numbers = tuple(row)
        self.at = 0

    def look(self, seen):
        """Return the next number of the row."""
        x = self.numbers[self.at]
        self.at += 1
        return x


def run(runner, row, w):
    """Return what a runner that is shown w ticks ahead returns, tick by tick of a row."""
    told = tuple(row)
    found = []
    for t in range(len(told)):
        found.append(runner.look(told[t:t + w + 1]))
    return tuple(found)
