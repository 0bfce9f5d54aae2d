"""Questions about the parts of a sheet."""

from wakedenough.acts import part_number
from wakedenough.bestrules import least_factor
from wakedenough.errors import BadAsk, BadTree
from wakedenough.inner import inner_row
from wakedenough.layers import least_by_layers
from wakedenough.menus import check_menu
from wakedenough.papers import judge_paper
from wakedenough.rows import row_cost
from wakedenough.rules import rule_cost, unmet
from wakedenough.sight import sight_cost, sight_row
from wakedenough.ways import fraction
from wakedenough.works import least_cost


def value_of(sheet, word, name):
    """Return the value of the part of a sheet with a name; raise BadAsk unless it is there, and of a sort."""
    at = part_number(sheet, name)
    if at is None:
        raise BadAsk("name")
    part = sheet[2][at]
    if part[0] != word:
        raise BadAsk("sort")
    return part[2]


def needs_in_sight(sheet, name):
    """Return the need row with a name, for the sight runner; raise BadAsk if it sees too far, too."""
    needs = value_of(sheet, "needs", name)
    if sheet[1] >= sheet[0]:
        raise BadAsk("far")
    return needs


def least_of(sheet, name):
    """Return the least cost of a need row."""
    return least_by_layers(value_of(sheet, "needs", name), sheet[0])


def paid_of(sheet, name):
    """Return what the sight runner pays for a need row."""
    return sight_cost(needs_in_sight(sheet, name), sheet[0], sheet[1])


def quotient_of(sheet, name):
    """Return what the sight runner pays for a need row by its least cost, or None if this is 0."""
    paid = paid_of(sheet, name)
    least = least_of(sheet, name)
    return None if least == 0 else fraction(paid, least)


def runs_of_sight(sheet, name):
    """Return the sight runner's run on a need row."""
    return sight_row(needs_in_sight(sheet, name), sheet[0], sheet[1])


def unmet_of(sheet, name):
    """Return a shortest need row that a rule does not serve, or None."""
    return unmet(value_of(sheet, "rule", name))


def served_rule(sheet, name):
    """Return the rule with a name; raise BadAsk if there is a need row that it does not serve, too."""
    rule = value_of(sheet, "rule", name)
    if unmet(rule) is not None:
        raise BadAsk("unmet")
    return rule


def price_of_rule(sheet, name, row_name):
    """Return what a rule pays on a need row."""
    rule = value_of(sheet, "rule", name)
    needs = value_of(sheet, "needs", row_name)
    if max(needs, default=0) > rule[0]:
        raise BadAsk("need")
    return rule_cost(rule, sheet[0], needs)


def best_of(sheet, name):
    """Return the least cost of a slot row."""
    return least_cost(value_of(sheet, "slots", name), sheet[0])


def inside_of(sheet, name):
    """Return what the inner runner pays for a slot row."""
    slots = value_of(sheet, "slots", name)
    return row_cost(slots, sheet[0], inner_row(slots, sheet[0]))


def menu_factor(sheet, name):
    """Return the least factor of the slots of a slot row as a menu."""
    slots = value_of(sheet, "slots", name)
    try:
        check_menu(slots)
    except BadTree:
        raise BadAsk("menu") from None
    return least_factor(slots, sheet[0])


def paper_fault(sheet, row_name, prices_name, slots_name):
    """Return the first fault of a fleet row and prices as a paper for a slot row, or None if they are one."""
    row = value_of(sheet, "row", row_name)
    prices = value_of(sheet, "prices", prices_name)
    slots = value_of(sheet, "slots", slots_name)
    return judge_paper(slots, sheet[0], (row, prices))
