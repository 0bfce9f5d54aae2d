"""Plain, slow ways to find what the program tells: what the tests hold it against."""

import itertools
import random
import re

from wakedenough.errors import BadAct, BadAsk, BadTree, TooGreat
from wakedenough.sheets import check_sheet

LEXEME = re.compile(r"(?P<word>[a-z][a-z0-9]*)|(?P<numeral>0|[1-9][0-9]*)|(?P<sign>->|[{}\[\];:,-])")


# Texts: a form is regular, so what may follow some lexemes is a set of lists of forms.

def seq(*forms):
    return ("seq", forms)


def star(form):
    return ("star", form)


def either(*forms):
    return ("or", forms)


NAME = ("sort", "word")
NUMERAL = ("sort", "numeral")
RUN = either(NUMERAL, seq(NUMERAL, "x", NUMERAL))
RUNS = either(seq(), seq(RUN, star(seq(",", RUN))))
INT = either(NUMERAL, seq("-", ("above 0",)))
SLOT = seq("[", NUMERAL, NUMERAL, NUMERAL, ":", star(INT), "]")
PAIR = seq(NUMERAL, "->", NUMERAL)
STATE = seq("{", PAIR, star(seq(",", PAIR)), "}")
PART = seq(either(seq("needs", NAME, RUNS), seq("row", NAME, RUNS), seq("prices", NAME, RUNS),
                  seq("slots", NAME, star(SLOT)), seq("rule", NAME, "most", NUMERAL, STATE, star(STATE))), ";")
SHEET = seq("sheet", "{", "start", NUMERAL, ";", "sight", NUMERAL, ";", star(PART), "}")


def fits(form, sort, lexeme):
    """Whether a form of one lexeme is that of this one."""
    if isinstance(form, str):
        return lexeme == form
    if form[0] == "sort":
        return sort == form[1]
    return form[0] == "above 0" and sort == "numeral" and lexeme != "0"


def opened(forms):
    """All the lists of forms that a list of forms stands for, each empty or with one lexeme first."""
    if not forms:
        return {()}
    first, rest = forms[0], forms[1:]
    if not isinstance(first, str) and first[0] == "seq":
        return opened(first[1] + rest)
    if not isinstance(first, str) and first[0] == "or":
        return set().union(*[opened((form,) + rest) for form in first[1]])
    if not isinstance(first, str) and first[0] == "star":
        return opened(rest) | opened((first[1],) + forms)
    return {forms}


def plain_lexemes(text):
    """The lexemes of a text up to the first character that begins none, and its place or None."""
    found, place = [], 0
    while True:
        while place < len(text) and text[place] in " \n":
            place += 1
        if place == len(text):
            return found, None
        match = LEXEME.match(text, place)
        if match is None or match.lastgroup == "word" and len(match.group()) > 12:
            return found, place
        found.append((match.lastgroup, match.group(), place))
        place = match.end()


def first_wrong_place(text, form):
    """The first wrong place of a text that is read as a form, or None."""
    found, bad = plain_lexemes(text)
    ways = opened((form,))
    for sort, lexeme, place in found:
        left = [way[1:] for way in ways if way and fits(way[0], sort, lexeme)]
        if not left:
            return place
        ways = set().union(*[opened(way) for way in left])
    if bad is not None:
        return bad
    return None if () in ways else len(text)


# Slots and rows.

# The slots of the player of slots, and slots far from each other.
EARNS = (0, 1, 1, (-1,))
COSTS = (0, 1, 0, (1,))
FAR_SLOTS = ((10 ** 6, 10 ** 6 + 1, 5, (10 ** 12,)), (0, 1, 10 ** 12, (-10 ** 12,)), (10 ** 5, 10 ** 5 + 2, 9, (-4, -4)), (7, 7, 0, ()))


def cost_of(slot, x):
    """The cost of a slot, or the worth of a work, at one of its numbers."""
    cost = slot[2]
    for k in range(x - slot[0]):
        cost += slot[3][k]
    return cost


def numbers_of(slot):
    return range(slot[0], slot[1] + 1)


def rows_of(slots):
    """All rows that serve."""
    return itertools.product(*[numbers_of(slot) for slot in slots])


def plain_starts(row):
    return sum(row[t] - (row[t - 1] if t else 0) for t in range(len(row)) if row[t] > (row[t - 1] if t else 0))


def plain_cost(slots, b, row):
    """The cost of a row that serves."""
    return sum(cost_of(slot, x) for slot, x in zip(slots, row)) + b * plain_starts(row)


def convex_slots(high, costs, rises):
    """All slots with numbers to high, first costs from some, and slopes from some, no cost below 0."""
    found = []
    for need in range(high + 1):
        for most in range(need, high + 1):
            for first in costs:
                for slopes in itertools.combinations_with_replacement(rises, most - need):
                    slot = (need, most, first, slopes)
                    if all(cost_of(slot, x) >= 0 for x in numbers_of(slot)):
                        found.append(slot)
    return found


def random_slot(source, high, most_wide, greatest):
    """A slot with numbers to high, and with costs from all sides."""
    need = source.randrange(high + 1)
    most = min(high, need + source.randrange(most_wide + 1))
    slopes = sorted(source.randrange(-greatest, greatest + 1) for _ in range(most - need))
    lowest = min(sum(slopes[:k]) for k in range(len(slopes) + 1))
    return (need, most, source.randrange(greatest + 1) - lowest, tuple(slopes))


def random_slot_rows(seed, many, greatest):
    """So many rows of 1 to 5 small slots."""
    source = random.Random(seed)
    for k in range(many):
        yield tuple(random_slot(source, 4, 3, greatest) for _ in range(1 + k % 5))


def pairs_of_small_slots():
    """Rows of two small slots, with slopes of all sorts."""
    slots = convex_slots(2, (0, 1, 4), (-3, 0, 1, 5))
    return itertools.product(slots[::2], slots[::3])


def great_slots():
    """Slots as many, as wide, as far away and with as great costs as may be."""
    lows = [10 ** 6 - 200 - 150 * (t % 3 == 1) for t in range(300)]
    begins = [-100 * (t % 2) for t in range(300)]
    return tuple((low, low + 200, 10 ** 12, tuple(range(begin, begin + 200))) for low, begin in zip(lows, begins))


# Needs.

def plain_valleys(needs):
    """The valleys of a need row, by looking at all lots of ticks."""
    found = []
    for begin in range(1, len(needs)):
        for length in range(1, len(needs) - begin):
            low = max(needs[begin:begin + length])
            high = min(needs[begin - 1], needs[begin + length])
            if low < high:
                found.append((begin, length, low, high))
    return found


def plain_gaps(row, k):
    """The gaps of layer k of a row, by looking at all lots of ticks."""
    on = [x >= k for x in row]
    found = []
    for begin in range(1, len(row)):
        for length in range(1, len(row) - begin):
            if on[begin - 1] and on[begin + length] and not any(on[begin:begin + length]):
                found.append((begin, length))
    return found


def serving_rows(needs):
    """All rows that serve a need row and never have more on than its greatest need."""
    top = max(needs, default=0)
    return itertools.product(*[range(need, top + 1) for need in needs])


def need_row_cost(row, b):
    return sum(row) + b * plain_starts(row)


def small_need_rows(ticks, high):
    """All need rows of at most so many ticks with needs to high."""
    for many in range(ticks + 1):
        yield from itertools.product(range(high + 1), repeat=many)


# What may be anything.

ANYTHING = [None, True, False, 0, 1, -1, 10 ** 40, "", "a", "form", (), (1,), (1, 2), (1, 2, 3), ((), ()), ([], []), ((), [], ()),
            (((),),), ((1,), (1,)), (0, (), ()), [], [1], [(), ()], {}, {"a": 1}, {0: (1, 2)}, (None, None), (True, (), ()), ("", "")]


def deep(value, times):
    """A value within so many tuples."""
    for _ in range(times):
        value = (value,)
    return value


ANYTHING += [deep(1, 39), deep([], 30), [[[{"a": [None]}]]]]


def changed_at(values, at, value):
    """A tuple with another member in a place."""
    return values[:at] + (value,) + values[at + 1:]


# Best rows, works and prices, by going over all rows.

def costs_by_end(slots, b):
    """The dict from each number at which rows that serve may end to the least cost of those."""
    found = {}
    for row in rows_of(slots):
        end = row[-1]
        found[end] = min(found.get(end, 10 ** 40), plain_cost(slots, b, row))
    return found


def plain_works(slots, b):
    """For each tick the dict from its numbers to the least cost of the rows that end with them there."""
    return [costs_by_end(slots[:t + 1], b) for t in range(len(slots))]


def plain_low(worths):
    return min(x for x in worths if worths[x] == min(worths.values()))


def plain_high(worths, b):
    return max([x for x in worths if x - 1 in worths and worths[x] - worths[x - 1] <= b], default=min(worths))


def plain_inner_low(worths):
    return max(x for x in worths if worths[x] == min(worths.values()))


def plain_inner_high(worths, b):
    return min([x for x in worths if x + 1 in worths and worths[x + 1] - worths[x] >= b], default=max(worths))


def best_rows(slots, b):
    """All rows that serve and cost the least, with b 0, too."""
    rows = list(rows_of(slots))
    least = min(plain_cost(slots, b, row) for row in rows)
    return [row for row in rows if plain_cost(slots, b, row) == least]


def plain_paper_fault(slots, b, row, prices):
    """The first fault of a pair of as many integers as there are slots, by the words of S4.4."""
    ticks = range(len(slots))
    late = list(prices) + [0]
    before = [0] + list(row)
    worth = lambda t, x: cost_of(slots[t], x) + (late[t] - late[t + 1]) * x
    faults = [("serves", t) for t in ticks if row[t] not in numbers_of(slots[t])]
    faults += [("price", t) for t in ticks if not 0 <= prices[t] <= b]
    if not faults:
        faults += [("least", t) for t in ticks if worth(t, row[t]) > min(worth(t, x) for x in numbers_of(slots[t]))]
    faults += [("start", t) for t in ticks if row[t] > before[t] and prices[t] != b]
    faults += [("stop", t) for t in ticks if row[t] < before[t] and prices[t] != 0]
    return faults[0] if faults else None


# Runners.

def plain_sight(looks, b, w):
    """What the sight runner tells for some looks, by the words of S5.2."""
    told = []
    for t, seen in enumerate(looks):
        around = [looks[u][0] for u in range(max(0, t - (b - 1 - w)), t)] + list(seen[1:])[:w]
        before = told[-1] if told else 0
        told.append(max(seen[0], min(before, max(around, default=0))))
    return tuple(told)


def looks_of(row, w):
    """What is seen of a row, tick by tick."""
    return [tuple(row[t:t + w + 1]) for t in range(len(row))]


class Watched:
    """A runner that keeps what another one was shown and returned."""

    def __init__(self, runner):
        self.runner = runner
        self.looks = []
        self.told = []

    def look(self, seen):
        self.looks.append(seen)
        self.told.append(self.runner.look(seen))
        return self.told[-1]


class Script:
    """A runner of needs that returns the numbers of a script, but at least the need, and 0 behind its end."""

    def __init__(self, script):
        self.script = list(script)

    def look(self, seen):
        told = self.script.pop(0) if self.script else 0
        return max(told, seen[0])


# Rules, menus, and the places through which they lead.

K = (1, (((0, 0), (1, 1)), ((1, 0), (1, 1))))


def random_rule(source, most, states):
    return (most, tuple(tuple((source.randrange(most + 1), source.randrange(states)) for _ in range(most + 1))
                        for _ in range(states)))


def fit_rule(source, most, states, stops=0.7):
    """A rule that serves all need rows, and mostly has no machine on where none is needed."""
    found = []
    for _ in range(states):
        pairs = [(source.randrange(need, most + 1), source.randrange(states)) for need in range(most + 1)]
        if source.random() < stops:
            pairs[0] = (0, pairs[0][1])
        found.append(tuple(pairs))
    return (most, tuple(found))


def rule_fleet(rule, needs):
    """The fleet row of a rule."""
    state, row = 0, []
    for need in needs:
        x, state = rule[1][state][need]
        row.append(x)
    return row


def rising(most, b):
    """All rows of so many numbers from 0 to b that never fall."""
    return list(itertools.combinations_with_replacement(range(b + 1), most))


def plain_led(rule, b, place, need):
    """Where a need leads from a place, its price and its growth, by the words of S7.2 and S7.3."""
    state, on, steps = place
    x, late = rule[1][state][need]
    behind = tuple(0 if y < need else min(b, steps[y] + 1) for y in range(rule[0]))
    return (late, x, behind), x + b * max(0, x - on), need + sum(steps[:need])


def come_to(first, ends):
    """The dict from all places that are come to from a first one to where each leads, ends telling this."""
    found, new = {}, [first]
    while new:
        place = new.pop()
        if place not in found:
            found[place] = ends(place)
            new += found[place]
    return found


def simple_rings(graph):
    """All rings of a graph that come to no place twice, as tuples of pairs (place, number of the step).

    Each begins with its least place; a graph is a dict from places to lists of places."""
    order = {place: k for k, place in enumerate(sorted(graph))}

    def further(begin, place, way, seen):
        for k, end in enumerate(graph[place]):
            if end == begin:
                yield way + ((place, k),)
            elif order[end] > order[begin] and end not in seen:
                yield from further(begin, end, way + ((place, k),), seen | {end})

    for begin in sorted(graph):
        yield from further(begin, begin, (), {begin})


def simple_ways(graph, first):
    """All ways from a place that come to no place twice, as tuples of pairs (place, number of the step)."""
    def further(place, way, seen):
        yield way
        for k, end in enumerate(graph[place]):
            if end not in seen:
                yield from further(end, way + ((place, k),), seen | {end})

    yield from further(first, (), {first})


def plain_turn(menu, b, place, call, x):
    """The price and the growth of a turn, and where it leads, by the least over all numbers (S8.2, S8.3)."""
    on, steps = place
    slot, most = menu[call], menu[0][1]
    ready = [sum(steps[:y]) for y in range(most + 1)]
    behind = [min(ready[y] + cost_of(slot, y) + b * max(0, z - y) for y in numbers_of(slot)) for z in range(most + 1)]
    late = tuple(behind[z + 1] - behind[z] for z in range(most))
    return cost_of(slot, x) + b * max(0, x - on), behind[0], (x, late)


def plain_menu_places(menu, b):
    """All places of a menu, come to or not, ascending."""
    return [(on, steps) for on in range(menu[0][1] + 1) for steps in rising(menu[0][1], b)]


def random_menu_slot(source, most, greatest):
    """A slot with a told most; mostly it needs nothing, and some costs are often 0."""
    need = source.choice((0, 0, source.randrange(most + 1)))
    slopes = sorted(source.randrange(-greatest, greatest + 1) for _ in range(most - need))
    lowest = min(sum(slopes[:k]) for k in range(len(slopes) + 1))
    return (need, most, max(0, -lowest) + source.choice((0, 0, source.randrange(greatest + 1))), tuple(slopes))


def random_menu(source, most, many, greatest):
    """A menu of so many slots."""
    found = []
    while len(found) < many:
        slot = random_menu_slot(source, most, greatest)
        if slot not in found:
            found.append(slot)
    return tuple(found)


def plain_menu(most):
    """The menu of the plain slots with the needs 0 to most and the price 1."""
    return tuple((need, most, need, (1,) * (most - need)) for need in range(most + 1))


W = (EARNS, COSTS)


# Fleets, days and halls.

class PlainFleet:
    """A fleet by the words of S9.1 and S9.2."""

    def __init__(self, names):
        self.tick = 0
        self.states = {name: ("off", 0) for name in names}

    def with_word(self, word):
        return [name for name in self.states if self.states[name][0] == word]

    def oldest(self, word):
        """The oldest of those that are off or idle."""
        best = None
        for name in self.with_word(word):
            if best is None or self.states[name][1] < self.states[best][1] or (self.states[name][1] == self.states[best][1] and name < best):
                best = name
        return best

    def those(self, word):
        left = PlainFleet([])
        left.states = {name: self.states[name] for name in self.with_word(word)}
        if word in ("busy", "fallen"):
            return sorted(left.states)
        found = []
        while left.states:
            found.append(left.oldest(word))
            del left.states[found[-1]]
        return found

    def many_on(self):
        return len(self.with_word("idle")) + len(self.with_word("busy"))

    def fall(self, name):
        word, told = self.states[name]
        if word == "fallen":
            return BadAct
        self.states[name] = ("fallen", self.tick)
        return told if word == "busy" else None

    def mend(self, name):
        if self.states[name][0] != "fallen":
            return BadAct
        self.states[name] = ("off", self.tick)

    def free(self, name):
        if self.states[name][0] != "busy":
            return BadAct
        self.states[name] = ("idle", self.tick)

    def set_to(self, x):
        started, stopped = [], []
        while self.many_on() < x and self.with_word("off"):
            started.append(self.oldest("off"))
            self.states[started[-1]] = ("idle", self.tick)
        while self.many_on() > x and self.with_word("idle"):
            stopped.append(self.oldest("idle"))
            self.states[stopped[-1]] = ("off", self.tick)
        return (started, stopped)

    def take(self, request):
        best = None
        for name in self.with_word("idle"):
            if best is None or self.states[name][1] > self.states[best][1] or (self.states[name][1] == self.states[best][1] and name < best):
                best = name
        if best is not None:
            self.states[best] = ("busy", request)
        return best

    def go_on(self):
        self.tick += 1
        return self.tick


class PlainHall:
    """A hall by the words of S9.5 to S9.7; it keeps each request as a list of its name, its rest and its machine."""

    def __init__(self, names, b, w, day, runner):
        self.fleet, self.b, self.w, self.day, self.runner = PlainFleet(names), b, w, day, runner
        self.live, self.waits = {}, []
        self.served, self.needs, self.row, self.unmet, self.books, self.seen, self.told = [], [], [], [], [], [], []

    def running(self):
        return {self.fleet.states[name][1]: name for name in self.fleet.those("busy")}

    def needs_seen(self, s):
        found = []
        for u in range(s, min(s + self.w, len(self.day) - 1) + 1):
            many = sum(1 for rest in self.live.values() if rest > u - s)
            many += sum(1 for c in range(s + 1, u + 1) for _, length in self.day[c][2] if length > u - c)
            found.append(many)
        return tuple(found)

    def step(self):
        s = self.fleet.tick
        falls, mends, requests = self.day[s]
        for name in self.fleet.those("busy"):
            request = self.fleet.states[name][1]
            if self.live[request] == 0:
                self.fleet.free(name)
                del self.live[request]
                self.served.append(request)
        fallen = [self.fleet.fall(name) for name in falls if self.fleet.states[name][0] != "fallen"]
        self.waits = [request for request in fallen if request is not None] + self.waits
        for name in mends:
            if self.fleet.states[name][0] == "fallen":
                self.fleet.mend(name)
        for request, length in requests:
            self.live[request] = length
            self.waits.append(request)
        self.seen.append(self.needs_seen(s))
        x = self.runner.look(self.seen[-1])
        x = x if type(x) is int and x >= 0 else 0
        self.told.append(x)
        started = self.fleet.set_to(x)[0]
        while self.waits and self.fleet.with_word("idle"):
            self.fleet.take(self.waits.pop(0))
        if self.waits:
            self.unmet.append((s, len(self.waits)))
        self.needs.append(len(self.live))
        self.row.append(self.fleet.many_on())
        self.books += [(s, "start", name, None, self.b) for name in started]
        for name in sorted(self.fleet.states):
            word, request = self.fleet.states[name]
            if word in ("busy", "idle"):
                self.books.append((s, "work" if word == "busy" else "idle", name, request if word == "busy" else None, 1))
        for request in self.running():
            self.live[request] -= 1
        self.fleet.go_on()
        return (self.needs[-1], x, self.row[-1])


def random_day(source, names, ticks, greatest=6, falls=0.2, many=2):
    """A day with so many ticks, of requests of lengths up to a greatest one."""
    day, count = [], 0
    for _ in range(ticks):
        requests = []
        for _ in range(source.choice((0, 0, source.randrange(many + 1)))):
            requests.append((f"r{count}", source.randrange(1, greatest + 1)))
            count += 1
        some = lambda: tuple(source.sample(names, source.randrange(min(3, len(names)) + 1))) if source.random() < falls else ()
        day.append((some(), some(), tuple(requests)))
    return tuple(day)


# Desks.

def is_number(value):
    return type(value) is int and value >= 0


def plain_act_word(sheet, act):
    """The word of S10.1 with which an act cannot be done with a sheet, or None."""
    members = {"start": 2, "sight": 2, "put": 2, "drop": 2, "add": 3}
    if type(act) is not tuple or not act or type(act[0]) is not str or act[0] not in members or len(act) != members[act[0]]:
        return "form"
    named = {part[1]: part for part in sheet[2]}
    found = named.get(act[1]) if type(act[1]) is str else None
    if act[0] == "start":
        return None if is_number(act[1]) and act[1] >= 1 else "start"
    if act[0] == "sight":
        return None if is_number(act[1]) else "sight"
    if act[0] == "put":
        try:
            check_sheet((1, 0, (act[1],)))
        except BadTree:
            return "part"
        return "many" if len(named) == 30 and act[1][1] not in named else None
    if found is None:
        return "name"
    if act[0] == "drop":
        return None
    if found[0] != "needs":
        return "sort"
    return None if is_number(act[2]) else "need"


def plain_sheet(acts):
    """The sheet behind acts that could all be done, one behind another."""
    b, w, parts = 1, 0, {}
    for act in acts:
        if act[0] == "start":
            b = act[1]
        elif act[0] == "sight":
            w = act[1]
        elif act[0] == "put":
            parts[act[1][1]] = act[1]
        elif act[0] == "drop":
            del parts[act[1]]
        else:
            word, name, needs = parts[act[1]]
            parts[name] = (word, name, needs + (act[2],))
    return (b, w, tuple(parts.values()))


def random_part(source, name):
    """A part of any sort with a name."""
    sort = source.choice(("needs", "needs", "row", "prices", "slots", "rule", "rule"))
    if sort == "slots":
        return (sort, name, tuple(random_menu_slot(source, 1, 2) for _ in range(source.randrange(4))))
    if sort == "rule":
        return (sort, name, source.choice((fit_rule, random_rule))(source, source.randrange(1, 3), source.randrange(1, 3)))
    return (sort, name, tuple(source.randrange(3) for _ in range(source.randrange(5))))


def random_act(source):
    """An act, most of which can be done."""
    name = source.choice(("a", "b", "c", "d1", "e"))
    word = source.choice(("start", "sight", "put", "put", "put", "drop", "add", "add", "wrong"))
    if word == "start":
        return (word, source.choice((1, 2, 2, 3, 0, True)))
    if word == "sight":
        return (word, source.choice((0, 0, 1, 2, -1, None)))
    if word == "put":
        return (word, random_part(source, name))
    if word == "drop":
        return (word, name)
    if word == "add":
        return (word, name, source.choice((0, 1, 2, 7, -1)))
    return source.choice(((), ("put",), ["start", 2], ("put", 1), ("drop", [name]), ("add", name), ("undo",), None, ("put", ("needs", name, [1]))))


NAMED = ("a", "b", "c", "d1", "e", "zz", "", None, ["a"], ("a",), {}, True, 0)
ONE_NAME = ("least", "paid", "quotient", "runs", "factor", "unmet", "best", "inside", "menu")


def answers_of(desk, names=NAMED[:7]):
    """All that a desk tells of its sheet and answers to all questions about some names."""
    found = [desk.sheet()]
    asked = [(word, name) for word in ONE_NAME for name in names]
    asked += [("price", one, other) for one in names for other in names]
    asked += [("paper", one, other, third) for one in names[:4] for other in names[:4] for third in names[:4]]
    for word, *told in asked:
        try:
            found.append((word, told, getattr(desk, word)(*told)))
        except (BadAsk, TooGreat) as error:
            found.append((word, told, type(error), vars(error)))
    return found
