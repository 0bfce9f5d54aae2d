"""Plays: what they cost, and whether they are plays at all."""

from wakedenough.faults import is_pair
from wakedenough.layers import least_by_layers
from wakedenough.players import NeedPlayer, slot_against
from wakedenough.rows import costs_so_far, row_cost, starts
from wakedenough.words import is_integer, is_number
from wakedenough.works import held_slopes, least_cost, least_worth, works_of


def is_like_a_play(value):
    """Return whether a value is a pair of tuples of equally many members."""
    if not is_pair(value) or not isinstance(value[0], tuple) or not isinstance(value[1], tuple):
        return False
    return len(value[0]) == len(value[1])


def is_told_need(value, player):
    """Return whether a value is the need that a player tells at its tick."""
    return not player.has_ended() and is_integer(value) and value == player.need()


def judge_need_play(b, w, laps, value):
    """Return the first fault of what should be a play of the player of needs, or None if it is one."""
    if not is_like_a_play(value):
        return ("form",)
    player = NeedPlayer(b, w, laps)
    for t, (need, x) in enumerate(zip(value[0], value[1])):
        if not is_told_need(need, player):
            return ("need", t)
        if not is_number(x) or x < need:
            return ("served", t)
        player.hear(x)
    return None if player.has_ended() else ("end",)


def is_told_slot(value, slot):
    """Return whether a value is just a slot, with integers alone."""
    # True and False are equal to 1 and 0, but they are no integers here.
    return value == slot and all([is_integer(number) for number in value[:3] + value[3]])


def judge_slot_play(b, ticks, value):
    """Return the first fault of what should be a play of the player of slots, or None if it is one."""
    if not is_like_a_play(value):
        return ("form",)
    before = 0
    for t, (slot, x) in enumerate(zip(value[0], value[1])):
        if t >= ticks or not is_told_slot(slot, slot_against(before)):
            return ("slot", t)
        if not is_number(x) or x > 1:
            return ("served", t)
        before = x
    return None if len(value[0]) == ticks else ("end",)


def need_costs(b, play):
    """Return what a play of needs costs the runner, and the least cost of its needs."""
    needs, row = play
    return (sum(row) + b * starts(row), least_by_layers(needs, b))


def slot_costs(b, play):
    """Return what a play of slots costs the runner, and the least cost of its slots."""
    slots, row = play
    return (row_cost(slots, b, row), least_cost(slots, b))


def step_of(work, b):
    """Return the step behind a work: what HELD of it grows by from 0 to 1."""
    return held_slopes(work, b, 0, 1)[0]


def slot_account(b, play):
    """Return the account of a play of slots."""
    slots, row = play
    paid = costs_so_far(slots, b, row)
    works = works_of(slots, b)
    return tuple([(x, step_of(work, b), p, least_worth(work)) for x, p, work in zip(row, paid, works)])


def need_gain(b, w, play):
    """Return by how much a play of needs is above what S6.2 tells: at least 0."""
    paid, least = need_costs(b, play)
    return paid * (b + 1) - (2 * b - w) * least + (b + 1) * (b - 1 - w)


def slot_gain(b, play):
    """Return by how much a play of slots is above what S6.4 tells: at least 0."""
    paid, least = slot_costs(b, play)
    return b * paid - (3 * b - 2) * least + 2 * b * (b - 1)


def is_beaten(factor, costs):
    """Return whether a runner has paid more than a factor times the least cost."""
    p, q = factor
    paid, least = costs
    return q * paid > p * least
