"""What the inner runner does on rows of slots, and what this costs."""

from wakedenough.rows import costs_so_far
from wakedenough.runners import InnerRunner, run
from wakedenough.works import bounded, least_worth, works_of


def inner_row(slots, b):
    """Return the inner runner's run on a row of slots."""
    return run(InnerRunner(b), slots, 0)


def rest_of(b, step, is_on):
    """Return the rest of one machine."""
    return b * (b - 1 - step) if is_on else 2 * (b - 1) * (b - step)


def rests(work, b, x):
    """Return all rests together, x machines being on behind the tick of a work."""
    need, _, _, slopes = work
    # Machines above the slot's most are off, with the step b: they have no rest.
    total = need * rest_of(b, 0, True)
    for y, step in enumerate(bounded(slopes, b), start=need + 1):
        total = total + rest_of(b, step, y <= x)
    return total


def inner_account(slots, b):
    """Return the account of the inner runner on a row of slots."""
    row = inner_row(slots, b)
    paid = costs_so_far(slots, b, row)
    works = works_of(slots, b)
    return tuple([(x, p, least_worth(work), rests(work, b, x)) for x, p, work in zip(row, paid, works)])
