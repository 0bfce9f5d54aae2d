"""Slots that are made of needs, prices and costs, or of other slots."""

from wakedenough.sheets import require, slot_cost


def plain_slot(need, most, price):
    """Return the slot whose cost at each x from need to most is x * price."""
    return (need, most, need * price, (price,) * (most - need))


def slot_of(need, costs):
    """Return the slot with some costs from a need on; raise BadTree with the first wrong one."""
    rises = [late - early for early, late in zip(costs, costs[1:])]
    for k, cost in enumerate(costs):
        require(cost >= 0 and (k < 2 or rises[k - 2] <= rises[k - 1]), (k,))
    return (need, need + len(rises), costs[0], tuple(rises))


def ended(slots, x):
    """Return the same slots, but with just x of the last one."""
    return slots[:-1] + ((x, x, slot_cost(slots[-1], x), ()),)


def bare(slots):
    """Return the same slots with all costs 0."""
    return tuple([(slot[0], slot[1], 0, (0,) * len(slot[3])) for slot in slots])
