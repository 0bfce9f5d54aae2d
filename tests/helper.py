"""Plain, slow ways to find what the program tells: what the tests hold it against."""

import itertools
import re

LEXEME = re.compile(r"(?P<word>[a-z][a-z0-9]*)|(?P<numeral>0|[1-9][0-9]*)|(?P<sign>->|[{}\[\];:,-])")


# Texts: a form is regular, so what may follow some lexemes is a set of lists of forms.

def seq(*forms):
    return ("seq", forms)


def star(form):
    return ("star", form)


def either(*forms):
    return ("or", forms)


NAME = ("sort", "word")
NUMERAL = ("sort", "numeral")
RUN = either(NUMERAL, seq(NUMERAL, "x", NUMERAL))
RUNS = either(seq(), seq(RUN, star(seq(",", RUN))))
INT = either(NUMERAL, seq("-", ("above 0",)))
SLOT = seq("[", NUMERAL, NUMERAL, NUMERAL, ":", star(INT), "]")
PAIR = seq(NUMERAL, "->", NUMERAL)
STATE = seq("{", PAIR, star(seq(",", PAIR)), "}")
PART = seq(either(seq("needs", NAME, RUNS), seq("row", NAME, RUNS), seq("prices", NAME, RUNS),
                  seq("slots", NAME, star(SLOT)), seq("rule", NAME, "most", NUMERAL, STATE, star(STATE))), ";")
SHEET = seq("sheet", "{", "start", NUMERAL, ";", "sight", NUMERAL, ";", star(PART), "}")


def fits(form, sort, lexeme):
    """Whether a form of one lexeme is that of this one."""
    if isinstance(form, str):
        return lexeme == form
    if form[0] == "sort":
        return sort == form[1]
    return form[0] == "above 0" and sort == "numeral" and lexeme != "0"


def opened(forms):
    """All the lists of forms that a list of forms stands for, each empty or with one lexeme first."""
    if not forms:
        return {()}
    first, rest = forms[0], forms[1:]
    if not isinstance(first, str) and first[0] == "seq":
        return opened(first[1] + rest)
    if not isinstance(first, str) and first[0] == "or":
        return set().union(*[opened((form,) + rest) for form in first[1]])
    if not isinstance(first, str) and first[0] == "star":
        return opened(rest) | opened((first[1],) + forms)
    return {forms}


def plain_lexemes(text):
    """The lexemes of a text up to the first character that begins none, and its place or None."""
    found, place = [], 0
    while True:
        while place < len(text) and text[place] in " \n":
            place += 1
        if place == len(text):
            return found, None
        match = LEXEME.match(text, place)
        if match is None or match.lastgroup == "word" and len(match.group()) > 12:
            return found, place
        found.append((match.lastgroup, match.group(), place))
        place = match.end()


def first_wrong_place(text, form):
    """The first wrong place of a text that is read as a form, or None."""
    found, bad = plain_lexemes(text)
    ways = opened((form,))
    for sort, lexeme, place in found:
        left = [way[1:] for way in ways if way and fits(way[0], sort, lexeme)]
        if not left:
            return place
        ways = set().union(*[opened(way) for way in left])
    if bad is not None:
        return bad
    return None if () in ways else len(text)


# Slots and rows.

def cost_of(slot, x):
    """The cost of a slot, or the worth of a work, at one of its numbers."""
    cost = slot[2]
    for k in range(x - slot[0]):
        cost += slot[3][k]
    return cost


def numbers_of(slot):
    return range(slot[0], slot[1] + 1)


def rows_of(slots):
    """All rows that serve."""
    return itertools.product(*[numbers_of(slot) for slot in slots])


def plain_starts(row):
    return sum(row[t] - (row[t - 1] if t else 0) for t in range(len(row)) if row[t] > (row[t - 1] if t else 0))


def plain_cost(slots, b, row):
    """The cost of a row that serves."""
    return sum(cost_of(slot, x) for slot, x in zip(slots, row)) + b * plain_starts(row)


def convex_slots(high, costs, rises):
    """All slots with numbers to high, first costs from some, and slopes from some, no cost below 0."""
    found = []
    for need in range(high + 1):
        for most in range(need, high + 1):
            for first in costs:
                for slopes in itertools.combinations_with_replacement(rises, most - need):
                    slot = (need, most, first, slopes)
                    if all(cost_of(slot, x) >= 0 for x in numbers_of(slot)):
                        found.append(slot)
    return found


def random_slot(source, high, most_wide, greatest):
    """A slot with numbers to high, and with costs from all sides."""
    need = source.randrange(high + 1)
    most = min(high, need + source.randrange(most_wide + 1))
    slopes = sorted(source.randrange(-greatest, greatest + 1) for _ in range(most - need))
    lowest = min(sum(slopes[:k]) for k in range(len(slopes) + 1))
    return (need, most, source.randrange(greatest + 1) - lowest, tuple(slopes))


# Needs.

def plain_valleys(needs):
    """The valleys of a need row, by looking at all lots of ticks."""
    found = []
    for begin in range(1, len(needs)):
        for length in range(1, len(needs) - begin):
            low = max(needs[begin:begin + length])
            high = min(needs[begin - 1], needs[begin + length])
            if low < high:
                found.append((begin, length, low, high))
    return found


def plain_gaps(row, k):
    """The gaps of layer k of a row, by looking at all lots of ticks."""
    on = [x >= k for x in row]
    found = []
    for begin in range(1, len(row)):
        for length in range(1, len(row) - begin):
            if on[begin - 1] and on[begin + length] and not any(on[begin:begin + length]):
                found.append((begin, length))
    return found


def serving_rows(needs):
    """All rows that serve a need row and never have more on than its greatest need."""
    top = max(needs, default=0)
    return itertools.product(*[range(need, top + 1) for need in needs])


def need_row_cost(row, b):
    return sum(row) + b * plain_starts(row)


def small_need_rows(ticks, high):
    """All need rows of at most so many ticks with needs to high."""
    for many in range(ticks + 1):
        yield from itertools.product(range(high + 1), repeat=many)
