"""Least costs and best rows of needs, layer by layer."""

from wakedenough.valleys import valleys


def valley_cost(valley, b):
    """Return what is paid for a valley: its ticks, or the starts behind it if these are less."""
    _, length, low, high = valley
    return (high - low) * min(length, b)


def least_by_layers(needs, b):
    """Return the least cost of a need row."""
    beside = sum([valley_cost(valley, b) for valley in valleys(needs)])
    return sum(needs) + b * max(needs, default=0) + beside


def least_so_far(needs, b):
    """Return the list of the least costs of a need row up to each tick."""
    rises = list(needs)
    for valley in valleys(needs):
        # A valley is one as soon as the tick behind it is there.
        rises[valley[0] + valley[1]] += valley_cost(valley, b)
    costs = []
    paid = 0
    greatest = 0
    for need, rise in zip(needs, rises):
        paid = paid + rise
        greatest = max(greatest, need)
        costs.append(paid + b * greatest)
    return costs


def short_valleys(needs, b):
    """Return the valleys of at most b ticks, the shorter ones first."""
    short = [valley for valley in valleys(needs) if valley[1] <= b]
    return sorted(short, key=lambda valley: valley[1])


def best_by_layers(needs, b):
    """Return the told best row of a need row."""
    row = list(needs)
    # A valley within another one is shorter and less high, so the longer one has to come later.
    for begin, length, _, high in short_valleys(needs, b):
        row[begin:begin + length] = [high] * length
    return tuple(row)


def counts_of(numbers):
    """Return a dict that tells how often each number is there."""
    counts = {}
    for number in numbers:
        counts[number] = counts.get(number, 0) + 1
    return counts


def changes_of_starts(numbers):
    """Return a dict that tells by how much the starts of the layers change above a number."""
    changes = {}
    for before, x in zip([0, *numbers], numbers):
        if x > before:
            changes[before] = changes.get(before, 0) + 1
            changes[x] = changes.get(x, 0) - 1
    return changes


def row_layers(row):
    """Return the list of the row's layers of a fleet row."""
    numbers = [max(0, x) for x in row]
    counts = counts_of(numbers)
    changes = changes_of_starts(numbers)
    ends = sorted(set([0, *numbers]))
    told = []
    ticks = len(numbers)
    begun = 0
    for low, high in zip(ends, ends[1:]):
        ticks = ticks - counts.get(low, 0)
        begun = begun + changes.get(low, 0)
        # Ticks fall from each of these to the next one, so no two neighbours are alike.
        told.append((low, high, ticks, begun))
    return told
