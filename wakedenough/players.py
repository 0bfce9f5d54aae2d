"""Players: against each runner they make a row on which it pays more than a factor."""

from wakedenough.errors import NotServed
from wakedenough.words import is_number


class NeedPlayer:
    """The player of needs: the needs that it has told so far, and how it goes on by its answers."""

    def __init__(self, b, w, laps):
        self.longest = b - w
        self.sight = w
        self.laps_left = laps - 1
        self.told = [1] + [0] * w
        self.last = 0
        self.at = 0
        self.over = False

    def has_ended(self):
        """Return whether the row has no further tick."""
        return self.at >= len(self.told)

    def need(self):
        """Return the need of this tick."""
        return self.told[self.at]

    def seen(self):
        """Return what a runner sees at this tick."""
        return tuple(self.told[self.at:self.at + self.sight + 1])

    def hear(self, x):
        """Go on by what a runner returned at this tick."""
        if not self.over:
            self.settle(x)
        self.at += 1

    def settle(self, x):
        """Tell what is so w ticks behind the next one, by what a runner returned at this tick."""
        behind = self.at - self.last
        if behind > 0 and x == 0 and self.laps_left > 0:
            self.laps_left -= 1
            self.last = len(self.told)
            self.told.append(1)
        elif behind > 0 and (x == 0 or behind == self.longest):
            self.over = True
        else:
            self.told.append(0)


def served(x, need, most, tick):
    """Return what a runner returned at a tick; raise NotServed unless it serves; most may be None."""
    if not is_number(x) or x < need or (most is not None and x > most):
        raise NotServed(tick)
    return x


def play_needs(b, w, laps, runner):
    """Return the play of the player of needs against a runner that sees w ticks ahead."""
    player = NeedPlayer(b, w, laps)
    row = []
    while not player.has_ended():
        x = served(runner.look(player.seen()), player.need(), None, len(row))
        row.append(x)
        player.hear(x)
    return (tuple(player.told), tuple(row))


def slot_against(x):
    """Return the slot that the player of slots tells where the runner stood at x."""
    return (0, 1, 1, (-1,)) if x == 0 else (0, 1, 0, (1,))


def play_slots(b, ticks, runner):
    """Return the play of the player of slots against a runner."""
    slots = []
    row = []
    x = 0
    for t in range(ticks):
        slot = slot_against(x)
        x = served(runner.look((slot,)), 0, 1, t)
        slots.append(slot)
        row.append(x)
    return (tuple(slots), tuple(row))


def laps_for(b, w, factor):
    """Return the laps with which each runner pays more than a factor tells."""
    p, q = factor
    less = (2 * b - w) * q - (b + 1) * p
    return 1 + (b + 1) * (b - 1 - w) * q // less


def ticks_for(b, factor):
    """Return the ticks with which each runner pays more than a factor tells."""
    p, q = factor
    less = (3 * b - 2) * q - b * p
    m = 2 * b * (b - 1) * q // less
    return 1 + 2 * p * m // q
