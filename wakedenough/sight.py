"""What the sight runner does on rows of needs, and what this costs."""

from wakedenough.layers import least_by_layers
from wakedenough.runners import SightRunner, run
from wakedenough.valleys import valleys


def sight_row(needs, b, w):
    """Return the sight runner's run on a need row."""
    return run(SightRunner(b, w), needs, w)


def tails(needs):
    """Return the ascending list of the tails of a need row."""
    found = []
    low = 0
    for begin in range(len(needs) - 1, 0, -1):
        low = max(low, needs[begin])
        if needs[begin - 1] > low:
            found.append((begin, len(needs) - begin, low, needs[begin - 1]))
    return found[::-1]


def valley_paid(valley, b, w):
    """Return what the sight runner pays for a valley."""
    _, length, low, high = valley
    return (high - low) * (length if length <= b - 1 else 2 * b - 1 - w)


def tail_paid(tail, b, w):
    """Return what the sight runner pays for a tail."""
    _, length, low, high = tail
    return (high - low) * min(length, b - 1 - w)


def sight_cost(needs, b, w):
    """Return what the sight runner's run on a need row costs."""
    beside = sum([valley_paid(valley, b, w) for valley in valleys(needs)])
    behind = sum([tail_paid(tail, b, w) for tail in tails(needs)])
    return sum(needs) + b * max(needs, default=0) + beside + behind


def sight_room(needs, b, w):
    """Return how far the sight runner stays below what S5.4 lets it pay, b + 1 times."""
    return (2 * b - w) * least_by_layers(needs, b) - (b + 1) * sight_cost(needs, b, w)
