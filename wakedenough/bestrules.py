"""The best of all rules for a menu: the least factor that can be kept, and what shows it."""

from wakedenough.errors import TooGreat
from wakedenough.faults import fault_at, first_fault, is_pair
from wakedenough.games import Game, least_kept, settled
from wakedenough.inner import rest_of
from wakedenough.menus import first_place, is_greater, numbers_for, steps_behind, turn, turns_by_moves
from wakedenough.runners import brought
from wakedenough.ways import Ways, fraction, least_sums, mixed
from wakedenough.words import is_integer, is_number

GREATEST_SIZE = 300


def require_not_too_great(menu, b):
    """Raise TooGreat if a menu is too great for b."""
    if is_greater(menu, b, GREATEST_SIZE):
        raise TooGreat()


def worst_factor(b):
    """Return the worst factor, which the inner runner keeps for every menu."""
    return fraction(3 * b - 2, b)


def least_factor(menu, b):
    """Return the least factor of a menu, as a fraction."""
    require_not_too_great(menu, b)
    return least_kept(Game(menu, b), worst_factor(b))[0]


def rule_paper(menu, b, p, q):
    """Return a rule paper for (p, q), or None if there is none."""
    require_not_too_great(menu, b)
    game = Game(menu, b)
    worths = game.worths(p, q)
    lefts = settled(worths)[1]
    if lefts[0] is None:
        return None
    # From a place whose left is a number the best moves lead to such places alone.
    found = sorted(game.moved(worths, lefts).found)
    numbers = [-lefts[game.ways.numbers[place]] for place in found]
    return tuple([(place, game.moves_at(worths, lefts, place), number) for place, number in zip(found, numbers)])


def player_paper(menu, b, p, q):
    """Return a player paper for (p, q), or None if there is none."""
    require_not_too_great(menu, b)
    game = Game(menu, b)
    calls, lefts = settled(game.worths(p, q))
    if lefts[0] is not None:
        return None
    ways = game.called(calls)
    many = len(ways.found)
    worths = mixed(ways.prices, ways.growths, many * p, many * q)
    sums = least_sums(ways.ends, one_less(worths))
    rows = [(place, calls[game.ways.numbers[place]], total) for place, total in zip(ways.found, sums)]
    return (many, tuple(sorted(rows)))


def one_less(worths):
    """Return the worths of steps, each less by 1."""
    return [[worth - 1 for worth in some] for some in worths]


def lower_paper(menu, b):
    """Return a lower paper for the least factor, or None if this is 1."""
    require_not_too_great(menu, b)
    game = Game(menu, b)
    (p, q), calls = least_kept(game, worst_factor(b))
    if calls is None:
        return None
    ways = game.called(calls)
    many = len(ways.found)
    sums = least_sums(ways.ends, mixed(ways.prices, ways.growths, p, q))
    counts = least_sums(ways.ends, one_less(mixed(ways.prices, ways.growths, -many, many)))
    called = [calls[game.ways.numbers[place]] for place in ways.found]
    return (many, tuple(sorted(list(zip(ways.found, called, sums, counts)))))


def inner_moves(menu, b, place):
    """Return the moves of the inner paper at a place."""
    on, steps = place
    lates = [steps_behind(steps, slot, b)[1] for slot in menu]
    return tuple([brought(on, late.count(0), len(late) - late.count(b)) for late in lates])


def inner_number(b, place):
    """Return the number that the inner paper has for a place."""
    on, steps = place
    total = sum([rest_of(b, step, y <= on) for y, step in enumerate(steps, start=1)])
    # The worst factor is in least form: for an even b both its numbers have been halved.
    return -(total // 2) if b % 2 == 0 else -total


def inner_paper(menu, b):
    """Return the inner paper of a menu."""
    require_not_too_great(menu, b)
    ways = Ways(first_place(menu, b), lambda place: turns_by_moves(menu, b, place, inner_moves(menu, b, place)))
    return tuple([(place, inner_moves(menu, b, place), inner_number(b, place)) for place in sorted(ways.found)])


def is_place(menu, b, value):
    """Return whether a value is a place of a menu."""
    most = menu[0][1]
    if not is_pair(value) or not is_number(value[0]) or value[0] > most:
        return False
    steps = value[1]
    if not isinstance(steps, tuple) or len(steps) != most or not all([is_number(step) for step in steps]):
        return False
    return all([step <= late for step, late in zip(steps, steps[1:] + (b,))])


def are_moves(menu, value):
    """Return whether a value has for each slot a number from its need to its most."""
    if not isinstance(value, tuple) or len(value) != len(menu):
        return False
    return all([is_number(x) and slot[0] <= x <= slot[1] for slot, x in zip(menu, value)])


def is_call(menu, value):
    """Return whether a value is the number of a slot."""
    return is_number(value) and value < len(menu)


def are_rows(menu, b, value, members, is_told):
    """Return whether a value is a tuple of tuples of so many members, as told: a place, what is_told, integers."""
    if not isinstance(value, tuple) or not all([isinstance(row, tuple) and len(row) == members for row in value]):
        return False
    rows = [is_place(menu, b, row[0]) and is_told(menu, row[1]) for row in value]
    return all(rows) and all([is_integer(number) for row in value for number in row[2:]])


def is_like_a_calling_paper(menu, b, value, members):
    """Return whether a value is a pair of an integer of at least 1 and of rows with calls."""
    return is_pair(value) and is_number(value[0]) and value[0] >= 1 and are_rows(menu, b, value[1], members, is_call)


def judge_turns(rows, told, marked_turns, is_kept):
    """Return the first fault of the turns at the places of a paper, each behind its mark, or None."""
    for n, row in enumerate(rows):
        for mark, (price, growth, late) in marked_turns(row):
            if late not in told or not is_kept(row, told[late], price, growth):
                return ("move", n, mark)
    return None


def judge_rows(menu, b, rows, marked_turns, is_kept):
    """Return the first fault of the rows of a paper, or None."""
    told = {row[0]: row for row in rows}
    return first_fault([
        fault_at("order", [n > 0 and rows[n - 1][0] >= rows[n][0] for n in range(len(rows))]),
        None if first_place(menu, b) in told else ("first",),
        judge_turns(rows, told, marked_turns, is_kept),
    ])


def judge_rule_paper(menu, b, p, q, value):
    """Return the first fault of what should be a rule paper for (p, q), or None if it is one."""
    require_not_too_great(menu, b)
    if not are_rows(menu, b, value, 3, are_moves):
        return ("form",)
    return judge_rows(
        menu, b, value,
        lambda row: [(k, turn(menu, b, row[0], k, x)) for k, x in enumerate(row[1])],
        lambda row, late, price, growth: late[2] >= row[2] + q * price - p * growth,
    )


def answers_marked(menu, b, row):
    """Return the turns at a place by the call that a row of a paper has for it, each behind its number."""
    return [(x, turn(menu, b, row[0], row[1], x)) for x in numbers_for(menu[row[1]])]


def judge_called(menu, b, value, members, is_kept):
    """Return the first fault of what should be a pair of an integer and of rows with calls, or None."""
    require_not_too_great(menu, b)
    if not is_like_a_calling_paper(menu, b, value, members):
        return ("form",)
    many, rows = value
    return judge_rows(
        menu, b, rows,
        lambda row: answers_marked(menu, b, row),
        lambda row, late, price, growth: is_kept(many, row, late, price, growth),
    )


def judge_player_paper(menu, b, p, q, value):
    """Return the first fault of what should be a player paper for (p, q), or None if it is one."""
    return judge_called(
        menu, b, value, 3,
        lambda many, row, late, price, growth: late[2] <= row[2] + many * (q * price - p * growth) - 1,
    )


def judge_lower_paper(menu, b, p, q, value):
    """Return the first fault of what should be a lower paper for (p, q), or None if it is one."""
    return judge_called(
        menu, b, value, 4,
        lambda many, row, late, price, growth: late[2] <= row[2] + q * price - p * growth
        and late[3] <= row[3] + many * (price + growth) - 1,
    )
