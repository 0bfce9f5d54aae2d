"""What the lazy runner does on rows of slots, and what this costs."""

from wakedenough.rows import costs_so_far
from wakedenough.runners import LazyRunner, run
from wakedenough.works import least_worth, low_of, works_of


def lazy_row(slots, b):
    """Return the lazy runner's run on a row of slots."""
    return run(LazyRunner(b), slots, 0)


def lazy_account(slots, b):
    """Return the account of the lazy runner on a row of slots."""
    row = lazy_row(slots, b)
    account = []
    before = started = stopped = 0
    for work, x, paid in zip(works_of(slots, b), row, costs_so_far(slots, b, row)):
        started = started + max(0, x - before)
        stopped = stopped + max(0, before - x)
        account.append((x, started, stopped, paid, least_worth(work), low_of(work)))
        before = x
    return tuple(account)
