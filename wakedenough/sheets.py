"""Sheets: what is one, and what stands on it."""

from wakedenough.errors import BadTree, UnknownName
from wakedenough.words import is_integer, is_name, is_number


def require(holds, path):
    """Raise BadTree with a path unless what is wanted holds."""
    if not holds:
        raise BadTree(path)


def require_members(value, path, many):
    """Require a tuple of so many members."""
    require(isinstance(value, tuple) and len(value) == many, path)


def look_at_numbers(value, path):
    """Raise BadTree with the first wrong part of what should be a tuple of numbers."""
    require(isinstance(value, tuple), path)
    for k, number in enumerate(value):
        require(is_number(number), path + (k,))


def look_at_slopes(slopes, first, path):
    """Raise BadTree with the first wrong slope behind a first cost."""
    cost = first
    for k, slope in enumerate(slopes):
        require(is_integer(slope), path + (k,))
        cost += slope
        require(cost >= 0 and (k == 0 or slopes[k - 1] <= slope), path + (k,))


def look_at_slot(value, path):
    """Raise BadTree with the first wrong part of what should be a slot."""
    require_members(value, path, 4)
    need, most, first, slopes = value
    require(is_number(need), path + (0,))
    require(is_number(most) and most >= need, path + (1,))
    require(is_number(first), path + (2,))
    require_members(slopes, path + (3,), most - need)
    look_at_slopes(slopes, first, path + (3,))


def look_at_slots(value, path):
    """Raise BadTree with the first wrong part of what should be a slot row."""
    require(isinstance(value, tuple), path)
    for k, slot in enumerate(value):
        look_at_slot(slot, path + (k,))


def look_at_state(value, most, many_states, path):
    """Raise BadTree with the first wrong part of what should be a state of a rule."""
    require_members(value, path, most + 1)
    for need, pair in enumerate(value):
        require_members(pair, path + (need,), 2)
        x, late = pair
        require(is_number(x) and x <= most, path + (need, 0))
        require(is_number(late) and late < many_states, path + (need, 1))


def look_at_rule(value, path):
    """Raise BadTree with the first wrong part of what should be a rule."""
    require_members(value, path, 2)
    most, states = value
    require(is_number(most) and most >= 1, path + (0,))
    require(isinstance(states, tuple) and len(states) >= 1, path + (1,))
    for s, state in enumerate(states):
        look_at_state(state, most, len(states), path + (1, s))


LOOKS = {
    "needs": look_at_numbers,
    "row": look_at_numbers,
    "prices": look_at_numbers,
    "slots": look_at_slots,
    "rule": look_at_rule,
}


def look_at_part(value, names, path):
    """Raise BadTree with the first wrong part of a part of a sheet that has names already."""
    require_members(value, path, 3)
    word, name, told = value
    require(isinstance(word, str) and word in LOOKS, path + (0,))
    require(is_name(name) and name not in names, path + (1,))
    look = LOOKS[word]
    look(told, path + (2,))


def check_sheet(value):
    """Raise BadTree with the first wrong part if a value is no sheet."""
    require_members(value, (), 3)
    b, w, parts = value
    require(is_number(b) and b >= 1, (0,))
    require(is_number(w), (1,))
    require(isinstance(parts, tuple), (2,))
    names = {}
    for k, part in enumerate(parts):
        look_at_part(part, names, (2, k))
        names[part[1]] = True


def check_numbers(value):
    """Raise BadTree with the first wrong part if a value is no tuple of numbers."""
    look_at_numbers(value, ())


def check_slots(value):
    """Raise BadTree with the first wrong part if a value is no slot row."""
    look_at_slots(value, ())


def check_rule(value):
    """Raise BadTree with the first wrong part if a value is no rule."""
    look_at_rule(value, ())


def slot_cost(slot, x):
    """Return the cost of a slot at x, or None if it has none there."""
    need, most, first, slopes = slot
    if x < need or x > most:
        return None
    return first + sum(slopes[:x - need])


def part_named(sheet, name):
    """Return the part of a sheet with a name; raise UnknownName if there is none."""
    for part in sheet[2]:
        if part[1] == name:
            return part
    raise UnknownName(name)


def names_of(sheet, word):
    """Return the names of all parts of a sheet with a word, in their order."""
    return [part[1] for part in sheet[2] if part[0] == word]
