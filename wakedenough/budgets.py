"""Rows with few starts: what they cost, and what shows that they cost the least."""

from wakedenough.papers import judge_paper, paper_of, prices_for
from wakedenough.rows import starts
from wakedenough.sheets import slot_cost
from wakedenough.slots import bare
from wakedenough.words import is_number


def least_starts(slots):
    """Return the fewest starts of any row that serves."""
    row = []
    x = 0
    for slot in slots:
        x = min(max(x, slot[0]), slot[1])
        row.append(x)
    return starts(row)


def starts_paper(slots):
    """Return a starts paper for slots."""
    return paper_of(bare(slots), 1)


def costs_of(slot):
    """Return the list of the costs of a slot, from its need on."""
    return [slot_cost(slot, x) for x in range(slot[0], slot[1] + 1)]


def endless(slots):
    """Return a number that is above the running cost of each row that serves."""
    return 1 + sum([max(costs_of(slot)) for slot in slots])


class Table:
    """Least running costs up to a tick: one line a number from low on, one cost a count of starts."""

    def __init__(self, low, lines):
        self.low = low
        self.lines = lines

    def high(self):
        """Return the greatest number that has a line."""
        return self.low + len(self.lines) - 1

    def cost(self, x, s):
        """Return the cost of the rows that end with x and have at most s starts."""
        return self.lines[x - self.low][s]


def lesser(one, other):
    """Return the lesser ones of two lines, cost by cost."""
    return [min(cost, more) for cost, more in zip(one, other)]


def behind_stops(table):
    """Return the lines of a table behind any stops."""
    lines = []
    for line in table.lines[::-1]:
        lines.append(lesser(line, lines[-1]) if lines else line)
    return lines[::-1]


def line_behind_moves(table, stopped, x, below, none):
    """Return the line of x behind stops and starts, that of the number below it being told."""
    # What stops comes from x or above, what starts comes by the number below.
    started = [none] + below[:-1]
    if x > table.high():
        return started
    return lesser(stopped[max(x, table.low) - table.low], started)


def behind_moves(table, need, most, none):
    """Return the lines of the numbers from need to most behind stops and starts."""
    stopped = behind_stops(table)
    line = [none] * len(stopped[0])
    lines = []
    for x in range(min(need, table.low), most + 1):
        line = line_behind_moves(table, stopped, x, line, none)
        if x >= need:
            lines.append(line)
    return lines


def table_behind(table, slot, s, none):
    """Return the table behind a slot, of the one ahead of it."""
    # A row with at most s starts never has more than s machines on.
    lines = behind_moves(table, slot[0], min(slot[1], s), none)
    return Table(slot[0], [[cost + more for more in line] for cost, line in zip(costs_of(slot), lines)])


def tables_of(slots, s):
    """Return the tables of slots, the one ahead of the first tick first, for at most s starts."""
    none = endless(slots)
    tables = [Table(0, [[0] * (s + 1)])]
    for slot in slots:
        tables.append(table_behind(tables[-1], slot, s, none))
    return tables


def least_of_table(table, s):
    """Return the least cost of a table for at most s starts."""
    return min([line[s] for line in table.lines])


def budget_cost(slots, s):
    """Return the budget cost of slots for s, or None if there is none."""
    if s < least_starts(slots):
        return None
    return least_of_table(tables_of(slots, s)[-1], s)


def best_before(table, x, s):
    """Return the number to come to x from that costs the least, and the starts that are left."""
    # Behind at most s starts x is at most s: so none of these counts is below 0.
    left = [s - max(0, x - y) for y in range(table.low, table.high() + 1)]
    costs = [table.cost(table.low + k, left[k]) for k in range(len(left))]
    best = costs.index(min(costs))
    return (table.low + best, left[best])


def budget_row(tables, s):
    """Return a row with at most s starts that has the least running cost."""
    last = [line[s] for line in tables[-1].lines]
    x = tables[-1].low + last.index(min(last))
    row = []
    left = s
    for table in tables[-2::-1]:
        row.append(x)
        x, left = best_before(table, x, left)
    return tuple(row[::-1])


def budget_paper(slots, s):
    """Return a budget paper for s, or None if there is no budget cost."""
    if s < least_starts(slots):
        return None
    tables = tables_of(slots, s + 1)
    c = least_of_table(tables[-1], s) - least_of_table(tables[-1], s + 1)
    row = budget_row(tables, s)
    return (c, row, prices_for(slots, c, row))


def judge_starts(row, s, c):
    """Return the fault of the starts of a row that c stands for in a budget paper, or None."""
    many = starts(row)
    if many > s or (c != 0 and many != s):
        return ("starts", many)
    return None


def judge_budget(slots, s, value):
    """Return the first fault of what should be a budget paper for s, or None if it is one."""
    if not isinstance(value, tuple) or len(value) != 3 or not is_number(value[0]):
        return ("form",)
    c, row, prices = value
    fault = judge_paper(slots, c, (row, prices))
    if fault is not None:
        return fault
    return judge_starts(row, s, c)
