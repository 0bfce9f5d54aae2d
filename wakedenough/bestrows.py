"""Best rows of slots, and the bounds that prices show."""

from wakedenough.sheets import slot_cost
from wakedenough.works import high_of, low_of, works_of


def best_row(slots, b):
    """Return the row from the lows, a best one."""
    row = []
    for work in works_of(slots, b)[::-1]:
        low = low_of(work)
        later = row[-1] if row else low
        row.append(min(max(later, low), high_of(work, b)))
    return tuple(row[::-1])


def least_numbers(slot, price):
    """Return the least and the greatest x at which the cost of a slot and price * x are least."""
    need, _, _, slopes = slot
    falling = len([slope for slope in slopes if slope + price < 0])
    not_rising = len([slope for slope in slopes if slope + price <= 0])
    return (need + falling, need + not_rising)


def price_rises(prices):
    """Return for each tick how much its price is above that of the next one, 0 behind the last."""
    return [price - late for price, late in zip(prices, prices[1:] + (0,))]


def least_priced(slot, price):
    """Return the least of the cost of a slot and price * x."""
    x = least_numbers(slot, price)[0]
    return slot_cost(slot, x) + price * x


def bound_of(slots, b, prices):
    """Return the bound of prices, which no row that serves costs less than."""
    return sum([least_priced(slot, price) for slot, price in zip(slots, price_rises(prices))])
