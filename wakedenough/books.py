"""Books: what was paid, tick by tick and machine by machine, and for whom."""


def total(books):
    """Return what all amounts add up to."""
    return sum([entry[4] for entry in books])


def tick_costs(books, ticks):
    """Return the tuple of what the amounts of each of the first ticks add up to."""
    costs = [0] * ticks
    for tick, _, _, _, amount in books:
        if tick < ticks:
            costs[tick] += amount
    return tuple(costs)


def machine_costs(books):
    """Return the dict from the machines that have entries to what their amounts add up to."""
    costs = {}
    for _, _, machine, _, amount in books:
        costs[machine] = costs.get(machine, 0) + amount
    return costs


def payers(books):
    """Return the list of for whom the entries are, the last one first: requests, or None."""
    found = []
    # For each machine the tick behind an entry, and for whom an entry there is, unless this is the house.
    behind = {}
    for tick, word, machine, request, _ in books[::-1]:
        payer = request
        if word != "work":
            late, payer = behind.get(machine, (tick, None))
            payer = payer if late <= tick + 1 else None
        found.append(payer)
        # Whatever stands ahead of a start is not for those who come behind it.
        behind[machine] = (tick, None if word == "start" else payer)
    return found


def bills(books):
    """Return the dict of the bills, from requests, and None for the house, to amounts."""
    found = {}
    for payer, entry in zip(payers(books), books[::-1]):
        found[payer] = found.get(payer, 0) + entry[4]
    return found
