"""Need papers: they show that no row that serves some needs costs less than a number."""

from wakedenough.faults import fault_at, first_fault, is_pair
from wakedenough.valleys import valleys
from wakedenough.words import is_number


def shown_cost(needs, b, paper):
    """Return the cost that a need paper shows each row that serves to have at least."""
    beside = sum([(valley[3] - valley[2]) * number for valley, number in paper])
    return sum(needs) + b * max(needs, default=0) + beside


def need_paper(needs, b, m):
    """Return a need paper for m, or None if there is none."""
    # No number can be greater than these, so no paper shows more.
    paper = tuple([(valley, min(valley[1], b)) for valley in valleys(needs)])
    if shown_cost(needs, b, paper) < m:
        return None
    return paper


def is_like_a_valley(value):
    """Return whether a value is a tuple of four numbers."""
    return isinstance(value, tuple) and len(value) == 4 and all([is_number(number) for number in value])


def is_like_a_need_paper(value):
    """Return whether a value is a tuple of pairs of a tuple of four numbers and a number."""
    if not isinstance(value, tuple) or not all([is_pair(pair) for pair in value]):
        return False
    return all([is_like_a_valley(valley) and is_number(number) for valley, number in value])


def are_no_valleys(needs, values):
    """Return for each of some tuples of four numbers whether it is no valley of a need row."""
    known = {valley: True for valley in valleys(needs)}
    return [value not in known for value in values]


def judge_need_paper(needs, b, m, value):
    """Return the first fault of what should be a need paper for m, or None if it is one."""
    if not is_like_a_need_paper(value):
        return ("form",)
    told = [pair[0] for pair in value]
    return first_fault([
        fault_at("order", [k > 0 and told[k - 1] >= told[k] for k in range(len(told))]),
        fault_at("valley", are_no_valleys(needs, told)),
        fault_at("number", [number > min(valley[1], b) for valley, number in value]),
        ("sum",) if shown_cost(needs, b, value) < m else None,
    ])
