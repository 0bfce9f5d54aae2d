"""Menus: slots of which rows are called, and the finitely many places through which these lead."""

from math import comb

from wakedenough.sheets import check_slots, require, slot_cost
from wakedenough.works import bounded


def check_menu(value):
    """Raise BadTree with the first wrong part if a value is no menu."""
    require(isinstance(value, tuple) and len(value) >= 1, ())
    check_slots(value)
    known = {}
    for k, slot in enumerate(value):
        require(slot[1] >= 1 and slot[1] == value[0][1], (k, 1))
        require(slot not in known, (k,))
        known[slot] = True


def menu_size(menu, b):
    """Return the size of a menu for b."""
    most = menu[0][1]
    # So many rows of most numbers from 0 to b never fall.
    return (most + 1) * comb(b + most, most)


def is_greater(menu, b, greatest):
    """Return whether the size of a menu is above a number."""
    # Each further factor leaves the product as it is, or makes it greater: so it need not be found to its end.
    most = menu[0][1]
    size = most + 1
    for k in range(1, most + 1):
        if size > greatest:
            return True
        size = size * (b + k) // k
    return size > greatest


def steps_behind(steps, slot, b):
    """Return the growth and the steps behind a slot, of the steps ahead of it."""
    need, _, first, slopes = slot
    sums = [step + slope for step, slope in zip(steps[need:], slopes)]
    growth = first + sum(steps[:need]) + sum([total for total in sums if total < 0])
    return (growth, (0,) * need + bounded(sums, b))


def first_place(menu, b):
    """Return the first place of a menu."""
    return (0, (b,) * menu[0][1])


def price_of(slot, b, on, x):
    """Return what x machines cost at a slot, with those that are started, on of them being on."""
    return slot_cost(slot, x) + b * max(0, x - on)


def turn(menu, b, place, call, x):
    """Return what a turn costs, how much the least cost grows by it, and where it leads."""
    on, steps = place
    growth, late = steps_behind(steps, menu[call], b)
    return (price_of(menu[call], b, on, x), growth, (x, late))


def numbers_for(slot):
    """Return the list of the numbers that a slot may be answered with."""
    return list(range(slot[0], slot[1] + 1))


def turns_of(menu, b, place, call):
    """Return the list of the turns with a call, number by number, as steps: where each leads, its price, its growth."""
    on, steps = place
    slot = menu[call]
    growth, late = steps_behind(steps, slot, b)
    return [((x, late), price_of(slot, b, on, x), growth) for x in numbers_for(slot)]


def turns_by_moves(menu, b, place, moves):
    """Return the list of the turns by some moves, call by call, as steps."""
    turns = [turn(menu, b, place, k, x) for k, x in enumerate(moves)]
    return [(late, price, growth) for price, growth, late in turns]
