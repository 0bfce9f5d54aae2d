"""Plain, slow ways to find what the program tells: what the tests hold it against."""

import itertools
import random
import re

LEXEME = re.compile(r"(?P<word>[a-z][a-z0-9]*)|(?P<numeral>0|[1-9][0-9]*)|(?P<sign>->|[{}\[\];:,-])")


# Texts: a form is regular, so what may follow some lexemes is a set of lists of forms.

def seq(*forms):
    return ("seq", forms)


def star(form):
    return ("star", form)


def either(*forms):
    return ("or", forms)


NAME = ("sort", "word")
NUMERAL = ("sort", "numeral")
RUN = either(NUMERAL, seq(NUMERAL, "x", NUMERAL))
RUNS = either(seq(), seq(RUN, star(seq(",", RUN))))
INT = either(NUMERAL, seq("-", ("above 0",)))
SLOT = seq("[", NUMERAL, NUMERAL, NUMERAL, ":", star(INT), "]")
PAIR = seq(NUMERAL, "->", NUMERAL)
STATE = seq("{", PAIR, star(seq(",", PAIR)), "}")
PART = seq(either(seq("needs", NAME, RUNS), seq("row", NAME, RUNS), seq("prices", NAME, RUNS),
                  seq("slots", NAME, star(SLOT)), seq("rule", NAME, "most", NUMERAL, STATE, star(STATE))), ";")
SHEET = seq("sheet", "{", "start", NUMERAL, ";", "sight", NUMERAL, ";", star(PART), "}")


def fits(form, sort, lexeme):
    """Whether a form of one lexeme is that of this one."""
    if isinstance(form, str):
        return lexeme == form
    if form[0] == "sort":
        return sort == form[1]
    return form[0] == "above 0" and sort == "numeral" and lexeme != "0"


def opened(forms):
    """All the lists of forms that a list of forms stands for, each empty or with one lexeme first."""
    if not forms:
        return {()}
    first, rest = forms[0], forms[1:]
    if not isinstance(first, str) and first[0] == "seq":
        return opened(first[1] + rest)
    if not isinstance(first, str) and first[0] == "or":
        return set().union(*[opened((form,) + rest) for form in first[1]])
    if not isinstance(first, str) and first[0] == "star":
        return opened(rest) | opened((first[1],) + forms)
    return {forms}


def plain_lexemes(text):
    """The lexemes of a text up to the first character that begins none, and its place or None."""
    found, place = [], 0
    while True:
        while place < len(text) and text[place] in " \n":
            place += 1
        if place == len(text):
            return found, None
        match = LEXEME.match(text, place)
        if match is None or match.lastgroup == "word" and len(match.group()) > 12:
            return found, place
        found.append((match.lastgroup, match.group(), place))
        place = match.end()


def first_wrong_place(text, form):
    """The first wrong place of a text that is read as a form, or None."""
    found, bad = plain_lexemes(text)
    ways = opened((form,))
    for sort, lexeme, place in found:
        left = [way[1:] for way in ways if way and fits(way[0], sort, lexeme)]
        if not left:
            return place
        ways = set().union(*[opened(way) for way in left])
    if bad is not None:
        return bad
    return None if () in ways else len(text)


# Slots and rows.

# The slots of the player of slots, and slots far from each other.
EARNS = (0, 1, 1, (-1,))
COSTS = (0, 1, 0, (1,))
FAR_SLOTS = ((10 ** 6, 10 ** 6 + 1, 5, (10 ** 12,)), (0, 1, 10 ** 12, (-10 ** 12,)), (10 ** 5, 10 ** 5 + 2, 9, (-4, -4)), (7, 7, 0, ()))


def cost_of(slot, x):
    """The cost of a slot, or the worth of a work, at one of its numbers."""
    cost = slot[2]
    for k in range(x - slot[0]):
        cost += slot[3][k]
    return cost


def numbers_of(slot):
    return range(slot[0], slot[1] + 1)


def rows_of(slots):
    """All rows that serve."""
    return itertools.product(*[numbers_of(slot) for slot in slots])


def plain_starts(row):
    return sum(row[t] - (row[t - 1] if t else 0) for t in range(len(row)) if row[t] > (row[t - 1] if t else 0))


def plain_cost(slots, b, row):
    """The cost of a row that serves."""
    return sum(cost_of(slot, x) for slot, x in zip(slots, row)) + b * plain_starts(row)


def convex_slots(high, costs, rises):
    """All slots with numbers to high, first costs from some, and slopes from some, no cost below 0."""
    found = []
    for need in range(high + 1):
        for most in range(need, high + 1):
            for first in costs:
                for slopes in itertools.combinations_with_replacement(rises, most - need):
                    slot = (need, most, first, slopes)
                    if all(cost_of(slot, x) >= 0 for x in numbers_of(slot)):
                        found.append(slot)
    return found


def random_slot(source, high, most_wide, greatest):
    """A slot with numbers to high, and with costs from all sides."""
    need = source.randrange(high + 1)
    most = min(high, need + source.randrange(most_wide + 1))
    slopes = sorted(source.randrange(-greatest, greatest + 1) for _ in range(most - need))
    lowest = min(sum(slopes[:k]) for k in range(len(slopes) + 1))
    return (need, most, source.randrange(greatest + 1) - lowest, tuple(slopes))


def random_slot_rows(seed, many, greatest):
    """So many rows of 1 to 5 small slots."""
    source = random.Random(seed)
    for k in range(many):
        yield tuple(random_slot(source, 4, 3, greatest) for _ in range(1 + k % 5))


def pairs_of_small_slots():
    """Rows of two small slots, with slopes of all sorts."""
    slots = convex_slots(2, (0, 1, 4), (-3, 0, 1, 5))
    return itertools.product(slots[::2], slots[::3])


def great_slots():
    """Slots as many, as wide, as far away and with as great costs as may be."""
    lows = [10 ** 6 - 200 - 150 * (t % 3 == 1) for t in range(300)]
    begins = [-100 * (t % 2) for t in range(300)]
    return tuple((low, low + 200, 10 ** 12, tuple(range(begin, begin + 200))) for low, begin in zip(lows, begins))


# Needs.

def plain_valleys(needs):
    """The valleys of a need row, by looking at all lots of ticks."""
    found = []
    for begin in range(1, len(needs)):
        for length in range(1, len(needs) - begin):
            low = max(needs[begin:begin + length])
            high = min(needs[begin - 1], needs[begin + length])
            if low < high:
                found.append((begin, length, low, high))
    return found


def plain_gaps(row, k):
    """The gaps of layer k of a row, by looking at all lots of ticks."""
    on = [x >= k for x in row]
    found = []
    for begin in range(1, len(row)):
        for length in range(1, len(row) - begin):
            if on[begin - 1] and on[begin + length] and not any(on[begin:begin + length]):
                found.append((begin, length))
    return found


def serving_rows(needs):
    """All rows that serve a need row and never have more on than its greatest need."""
    top = max(needs, default=0)
    return itertools.product(*[range(need, top + 1) for need in needs])


def need_row_cost(row, b):
    return sum(row) + b * plain_starts(row)


def small_need_rows(ticks, high):
    """All need rows of at most so many ticks with needs to high."""
    for many in range(ticks + 1):
        yield from itertools.product(range(high + 1), repeat=many)


# What may be anything.

ANYTHING = [None, True, False, 0, 1, -1, 10 ** 40, "", "a", "form", (), (1,), (1, 2), (1, 2, 3), ((), ()), ([], []), ((), [], ()),
            (((),),), ((1,), (1,)), (0, (), ()), [], [1], [(), ()], {}, {"a": 1}, {0: (1, 2)}, (None, None), (True, (), ()), ("", "")]


def deep(value, times):
    """A value within so many tuples."""
    for _ in range(times):
        value = (value,)
    return value


ANYTHING += [deep(1, 39), deep([], 30), [[[{"a": [None]}]]]]


def changed_at(values, at, value):
    """A tuple with another member in a place."""
    return values[:at] + (value,) + values[at + 1:]


# Best rows, works and prices, by going over all rows.

def costs_by_end(slots, b):
    """The dict from each number at which rows that serve may end to the least cost of those."""
    found = {}
    for row in rows_of(slots):
        end = row[-1]
        found[end] = min(found.get(end, 10 ** 40), plain_cost(slots, b, row))
    return found


def plain_works(slots, b):
    """For each tick the dict from its numbers to the least cost of the rows that end with them there."""
    return [costs_by_end(slots[:t + 1], b) for t in range(len(slots))]


def plain_low(worths):
    return min(x for x in worths if worths[x] == min(worths.values()))


def plain_high(worths, b):
    return max([x for x in worths if x - 1 in worths and worths[x] - worths[x - 1] <= b], default=min(worths))


def plain_inner_low(worths):
    return max(x for x in worths if worths[x] == min(worths.values()))


def plain_inner_high(worths, b):
    return min([x for x in worths if x + 1 in worths and worths[x + 1] - worths[x] >= b], default=max(worths))


def best_rows(slots, b):
    """All rows that serve and cost the least, with b 0, too."""
    rows = list(rows_of(slots))
    least = min(plain_cost(slots, b, row) for row in rows)
    return [row for row in rows if plain_cost(slots, b, row) == least]


def plain_paper_fault(slots, b, row, prices):
    """The first fault of a pair of as many integers as there are slots, by the words of S4.4."""
    ticks = range(len(slots))
    late = list(prices) + [0]
    before = [0] + list(row)
    worth = lambda t, x: cost_of(slots[t], x) + (late[t] - late[t + 1]) * x
    faults = [("serves", t) for t in ticks if row[t] not in numbers_of(slots[t])]
    faults += [("price", t) for t in ticks if not 0 <= prices[t] <= b]
    if not faults:
        faults += [("least", t) for t in ticks if worth(t, row[t]) > min(worth(t, x) for x in numbers_of(slots[t]))]
    faults += [("start", t) for t in ticks if row[t] > before[t] and prices[t] != b]
    faults += [("stop", t) for t in ticks if row[t] < before[t] and prices[t] != 0]
    return faults[0] if faults else None


# Runners.

def plain_sight(looks, b, w):
    """What the sight runner tells for some looks, by the words of S5.2."""
    told = []
    for t, seen in enumerate(looks):
        around = [looks[u][0] for u in range(max(0, t - (b - 1 - w)), t)] + list(seen[1:])[:w]
        before = told[-1] if told else 0
        told.append(max(seen[0], min(before, max(around, default=0))))
    return tuple(told)


def looks_of(row, w):
    """What is seen of a row, tick by tick."""
    return [tuple(row[t:t + w + 1]) for t in range(len(row))]


class Watched:
    """A runner that keeps what another one was shown and returned."""

    def __init__(self, runner):
        self.runner = runner
        self.looks = []
        self.told = []

    def look(self, seen):
        self.looks.append(seen)
        self.told.append(self.runner.look(seen))
        return self.told[-1]


class Script:
    """A runner of needs that returns the numbers of a script, but at least the need, and 0 behind its end."""

    def __init__(self, script):
        self.script = list(script)

    def look(self, seen):
        told = self.script.pop(0) if self.script else 0
        return max(told, seen[0])
