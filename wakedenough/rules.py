"""Rules: how they go through needs, and which needs they serve."""

from wakedenough.places import steps_after
from wakedenough.rows import starts
from wakedenough.runners import RuleRunner, run
from wakedenough.words import is_number


def rule_row(rule, needs):
    """Return the fleet row with which a rule goes through a list of needs."""
    return run(RuleRunner(rule), needs, 0)


def rule_cost(rule, b, needs):
    """Return what the fleet row of a rule costs, whether it serves or not."""
    row = rule_row(rule, needs)
    return sum(row) + b * starts(row)


def shortest_rows(rule):
    """Return the dict from the states come to, the nearest first, to shortest need rows that lead to them."""
    rows = {0: ()}
    found = [0]
    at = 0
    while at < len(found):
        state = found[at]
        for need, (_, late) in enumerate(rule[1][state]):
            if late not in rows:
                rows[late] = rows[state] + (need,)
                found.append(late)
        at += 1
    return rows


def unmet(rule):
    """Return a shortest need row that a rule does not serve, or None if it serves all."""
    for state, row in shortest_rows(rule).items():
        for need, (x, _) in enumerate(rule[1][state]):
            if x < need:
                return row + (need,)
    return None


def serving_paper(rule, m):
    """Return a serving paper of a rule for m, or None if there is none."""
    row = unmet(rule)
    if row is not None and (m is None or len(row) < m):
        return None
    rows = shortest_rows(rule)
    return tuple([len(rows[state]) if state in rows else None for state in range(len(rule[1]))])


def is_like_a_serving_paper(value, many):
    """Return whether a value is a tuple of so many members, each a number or None."""
    if not isinstance(value, tuple) or len(value) != many:
        return False
    return all([number is None or is_number(number) for number in value])


def is_step_as_told(paper, m, number, need, pair):
    """Return whether a serving paper for m lets a state with a number have a pair for a need."""
    x, late = pair
    if paper[late] is None or paper[late] > number + 1:
        return False
    return x >= need or (m is not None and number >= m - 1)


def judge_serving(rule, m, value):
    """Return the first fault of what should be a serving paper of a rule for m, or None if it is one."""
    if not is_like_a_serving_paper(value, len(rule[1])):
        return ("form",)
    if value[0] != 0:
        return ("start",)
    for s, number in enumerate(value):
        for n, pair in enumerate(rule[1][s]):
            if number is not None and not is_step_as_told(value, m, number, n, pair):
                return ("state", s, n)
    return None


def sight_rule(b, most):
    """Return the rule that goes through needs up to most as the sight runner that sees nothing ahead."""
    found = [(b,) * most]
    numbers = {found[0]: 0}
    states = []
    while len(states) < len(found):
        steps = found[len(states)]
        pairs = []
        for need in range(most + 1):
            late = steps_after(steps, need, b)
            if late not in numbers:
                numbers[late] = len(found)
                found.append(late)
            pairs.append((len([step for step in late if step < b]), numbers[late]))
        states.append(tuple(pairs))
    return (most, tuple(states))
