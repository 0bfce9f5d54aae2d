"""Works: the least costs of slots, by the number of machines that are on at the end."""

from wakedenough.sheets import slot_cost

NOTHING = (0, 0, 0, ())


def worth_at(work, x):
    """Return the worth of a work at x, or None if it has none there."""
    return slot_cost(work, x)


def slopes_within(work, low, high):
    """Return the slopes of a work from low to high, both numbers of it."""
    return work[3][low - work[0]:high - work[0]]


def sum_of(one, other):
    """Return the sum of two works, or None if there is none."""
    low = max(one[0], other[0])
    high = min(one[1], other[1])
    if low > high:
        return None
    slopes = slopes_within(one, low, high)
    others = slopes_within(other, low, high)
    sums = tuple([slope + more for slope, more in zip(slopes, others)])
    return (low, high, worth_at(one, low) + worth_at(other, low), sums)


def low_of(work):
    """Return the least x at which a work has its least worth."""
    return work[0] + len([slope for slope in work[3] if slope < 0])


def high_of(work, b):
    """Return the greatest x of a work to which its slope is at most b, or its least x."""
    return work[0] + len([slope for slope in work[3] if slope <= b])


def least_worth(work):
    """Return the least worth of a work."""
    return worth_at(work, low_of(work))


def bounded(slopes, b):
    """Return slopes with 0 for those below 0, and b for those above b."""
    return tuple([min(max(0, slope), b) for slope in slopes])


def held_worth(work, b, x):
    """Return the worth of what a work becomes by b, at any x of at least 0."""
    low, high, _, slopes = work
    within = bounded(slopes, b)[:max(0, x - low)]
    return least_worth(work) + sum(within) + b * max(0, x - high)


def held_slopes(work, b, low, high):
    """Return the slopes, from low to high, of what a work becomes by b."""
    begin, end, _, slopes = work
    within = bounded(slopes, b)[max(0, low - begin):max(0, high - begin)]
    below = (0,) * max(0, min(high, begin) - low)
    above = (b,) * max(0, high - max(low, end))
    return below + within + above


def held(work, b, low, high):
    """Return what a work becomes by b, as a work from low to high."""
    return (low, high, held_worth(work, b, low), held_slopes(work, b, low, high))


def work_after(work, slot, b):
    """Return the work behind a slot, of the work ahead of it."""
    return sum_of(slot, held(work, b, slot[0], slot[1]))


def works_of(slots, b):
    """Return the list of the works of slots."""
    works = []
    work = NOTHING
    for slot in slots:
        work = work_after(work, slot, b)
        works.append(work)
    return works


def least_costs(slots, b):
    """Return the list of the least costs of the slots up to each tick."""
    return [least_worth(work) for work in works_of(slots, b)]


def least_cost(slots, b):
    """Return the least cost of slots."""
    if not slots:
        return 0
    return least_costs(slots, b)[-1]
