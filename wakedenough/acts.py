"""Acts: whether they can be done with a sheet, and what it is behind them."""

from wakedenough.errors import BadTree
from wakedenough.sheets import check_sheet
from wakedenough.words import is_integer, is_number

MOST_PARTS = 30

# How many members an act has.
MEMBERS = {"start": 2, "sight": 2, "put": 2, "drop": 2, "add": 3}


def is_act(act):
    """Return whether a value is a tuple that begins with a word of acts and has as many members."""
    if not isinstance(act, tuple) or len(act) == 0 or not isinstance(act[0], str):
        return False
    return len(act) == MEMBERS.get(act[0], 0)


def part_number(sheet, name):
    """Return the number of the part of a sheet with a name, which may be anything, or None if there is none."""
    for k, part in enumerate(sheet[2]):
        if part[1] == name:
            return k
    return None


def is_part(value):
    """Return whether a value could be a part of a sheet."""
    try:
        check_sheet((1, 0, (value,)))
    except BadTree:
        return False
    return True


def start_word(sheet, act):
    """Return the word with which a start cannot be set, or None."""
    return None if is_integer(act[1]) and act[1] >= 1 else "start"


def sight_word(sheet, act):
    """Return the word with which a sight cannot be set, or None."""
    return None if is_number(act[1]) else "sight"


def put_word(sheet, act):
    """Return the word with which a part cannot be put, or None."""
    if not is_part(act[1]):
        return "part"
    if len(sheet[2]) >= MOST_PARTS and part_number(sheet, act[1][1]) is None:
        return "many"
    return None


def drop_word(sheet, act):
    """Return the word with which a part cannot be dropped, or None."""
    return "name" if part_number(sheet, act[1]) is None else None


def add_word(sheet, act):
    """Return the word with which a need cannot be added, or None."""
    at = part_number(sheet, act[1])
    if at is None:
        return "name"
    if sheet[2][at][0] != "needs":
        return "sort"
    return None if is_number(act[2]) else "need"


WORDS = {"start": start_word, "sight": sight_word, "put": put_word, "drop": drop_word, "add": add_word}


def refusal(sheet, act):
    """Return the word with which an act, which may be anything, cannot be done with a sheet, or None."""
    if not is_act(act):
        return "form"
    word_for = WORDS[act[0]]
    return word_for(sheet, act)


def with_part(sheet, at, parts):
    """Return a sheet with some parts in the place of the one with a number."""
    b, w, told = sheet
    return (b, w, told[:at] + parts + told[at + 1:])


def behind_start(sheet, act):
    """Return a sheet with another start."""
    return (act[1], sheet[1], sheet[2])


def behind_sight(sheet, act):
    """Return a sheet with another sight."""
    return (sheet[0], act[1], sheet[2])


def behind_put(sheet, act):
    """Return a sheet with a part put on it."""
    at = part_number(sheet, act[1][1])
    return with_part(sheet, len(sheet[2]) if at is None else at, (act[1],))


def behind_drop(sheet, act):
    """Return a sheet without a part."""
    return with_part(sheet, part_number(sheet, act[1]), ())


def behind_add(sheet, act):
    """Return a sheet with a need more."""
    at = part_number(sheet, act[1])
    word, name, needs = sheet[2][at]
    return with_part(sheet, at, ((word, name, needs + (act[2],)),))


BEHIND = {"start": behind_start, "sight": behind_sight, "put": behind_put, "drop": behind_drop, "add": behind_add}


def sheet_behind(sheet, act):
    """Return what a sheet is behind an act that can be done."""
    behind = BEHIND[act[0]]
    return behind(sheet, act)
