"""Fleet rows: whether they serve, and what they cost."""

from wakedenough.sheets import slot_cost


def serves(slots, row):
    """Return whether a fleet row has at each tick from the need to the most of its slot."""
    return all([slot[0] <= x <= slot[1] for slot, x in zip(slots, row)])


def starts(row):
    """Return how many machines a fleet row starts."""
    return sum([max(0, x - before) for before, x in zip([0, *row], row)])


def stops(row):
    """Return how many machines a fleet row stops."""
    return sum([max(0, before - x) for before, x in zip([0, *row], row)])


def running_cost(slots, row):
    """Return the running cost of a fleet row, or None if it does not serve."""
    if not serves(slots, row):
        return None
    return sum([slot_cost(slot, x) for slot, x in zip(slots, row)])


def row_cost(slots, b, row):
    """Return the cost of a fleet row, starts included, or None if it does not serve."""
    if not serves(slots, row):
        return None
    return running_cost(slots, row) + b * starts(row)


def costs_so_far(slots, b, row):
    """Return the list of what a fleet row that serves has cost up to each tick."""
    costs = []
    paid = 0
    for slot, before, x in zip(slots, [0, *row], row):
        paid = paid + slot_cost(slot, x) + b * max(0, x - before)
        costs.append(paid)
    return costs
