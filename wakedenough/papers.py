"""Papers: a row and prices that show that no row that serves costs less."""

from wakedenough.bestrows import best_row, least_numbers, price_rises
from wakedenough.faults import fault_at, first_fault, is_pair
from wakedenough.words import is_integer
from wakedenough.works import NOTHING, held_slopes, works_of


def price_at(slot, work, b, x, late):
    """Return a price for x at a slot, of the work ahead of it and of the price behind it."""
    # The least one that will do: there is one, so what bounds it from above need not be asked.
    price = held_slopes(work, b, x - 1, x)[0] if x > 0 else 0
    if x < slot[1]:
        price = max(price, late - slot[3][x - slot[0]])
    return price


def prices_for(slots, b, row):
    """Return prices with which a best row is a paper."""
    works = [NOTHING, *works_of(slots, b)]
    prices = []
    late = 0
    for slot, work, x in reversed(list(zip(slots, works, row))):
        late = price_at(slot, work, b, x, late)
        prices.append(late)
    return tuple(prices[::-1])


def paper_of(slots, b):
    """Return a paper for slots."""
    row = best_row(slots, b)
    return (row, prices_for(slots, b, row))


def is_row_of_integers(value, many):
    """Return whether a value is a tuple of so many integers."""
    return isinstance(value, tuple) and len(value) == many and all([is_integer(x) for x in value])


def is_like_a_paper(value, many):
    """Return whether a value is a pair of two tuples of so many integers."""
    return is_pair(value) and is_row_of_integers(value[0], many) and is_row_of_integers(value[1], many)


def is_least(slot, price, x):
    """Return whether the cost of a slot and price * x are nowhere less than at x."""
    least, greatest = least_numbers(slot, price)
    return least <= x <= greatest


def judge_paper(slots, b, value):
    """Return the first fault of what should be a paper for slots, or None if it is one."""
    if not is_like_a_paper(value, len(slots)):
        return ("form",)
    row, prices = value
    moves = [x - before for before, x in zip((0,) + row, row)]
    rises = price_rises(prices)
    return first_fault([
        fault_at("serves", [not slot[0] <= x <= slot[1] for slot, x in zip(slots, row)]),
        fault_at("price", [not 0 <= price <= b for price in prices]),
        fault_at("least", [not is_least(slot, price, x) for slot, price, x in zip(slots, rises, row)]),
        fault_at("start", [move > 0 and price != b for move, price in zip(moves, prices)]),
        fault_at("stop", [move < 0 and price != 0 for move, price in zip(moves, prices)]),
    ])
