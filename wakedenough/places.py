"""Places of rules: finitely many, through which each need row leads."""

from math import comb

from wakedenough.errors import TooGreat
from wakedenough.ways import Ways

GREATEST_SIZE = 20000


def size(rule, b):
    """Return the size of a rule for b."""
    most, states = rule
    # So many rows of most numbers from 0 to b never fall.
    return len(states) * (most + 1) * comb(b + most, most)


def require_not_too_great(rule, b):
    """Raise TooGreat if a rule is too great for b."""
    if size(rule, b) > GREATEST_SIZE:
        raise TooGreat()


def steps_after(steps, need, b):
    """Return the steps behind a need, of the steps ahead of it."""
    return (0,) * need + tuple([min(b, step + 1) for step in steps[need:]])


def growth_of(steps, need):
    """Return by how much the least cost grows by a need, the steps being those ahead of it."""
    return need + sum(steps[:need])


def ready_steps(b, most, needs):
    """Return the steps behind a list of needs."""
    steps = (b,) * most
    for need in needs:
        steps = steps_after(steps, need, b)
    return steps


def least_by_steps(b, needs):
    """Return the least cost of a list of needs."""
    steps = (b,) * max(needs, default=0)
    least = 0
    for need in needs:
        least = least + growth_of(steps, need)
        steps = steps_after(steps, need, b)
    return least


def first_place(rule, b):
    """Return the first place of a rule."""
    require_not_too_great(rule, b)
    return (0, 0, (b,) * rule[0])


def led_by(rule, b, place, need):
    """Return what led tells, of a rule that is known not to be too great."""
    state, on, steps = place
    x, late = rule[1][state][need]
    price = x + b * max(0, x - on)
    return ((late, x, steps_after(steps, need, b)), price, growth_of(steps, need))


def led(rule, b, place, need):
    """Return the place to which a need leads from a place, its price and its growth."""
    require_not_too_great(rule, b)
    return led_by(rule, b, place, need)


def ways_of(rule, b):
    """Return the ways through the places come to, each with as many steps as there are needs."""
    first = first_place(rule, b)
    return Ways(first, lambda place: [led_by(rule, b, place, need) for need in range(rule[0] + 1)])


def places(rule, b):
    """Return the ascending list of the places come to."""
    return sorted(ways_of(rule, b).found)
