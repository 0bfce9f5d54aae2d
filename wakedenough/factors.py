"""Factors of rules: what they pay at worst, and what shows it."""

from wakedenough.faults import fault_at, first_fault, is_pair
from wakedenough.places import first_place, led_by, require_not_too_great, ways_of
from wakedenough.ways import Climb, best_ring, first_steps, mixed, steps_to
from wakedenough.words import is_integer, is_number


def needs_of(steps):
    """Return the need row of some steps: each place has one step for each need."""
    return tuple([need for _, need in steps])


def way_and_ring(ways, ring):
    """Return the pair of need rows of a shortest way to a ring, and of the ring."""
    return (needs_of(steps_to(first_steps(ways.ends), ring[0][0])), needs_of(ring))


def ring_of_none(ways):
    """Return a ring, as steps, with the growth 0 and a price above 0, or None if there is none."""
    # Only the need 0 has the growth 0: so from each place just one way leads to just one such ring.
    walks = [None] * len(ways.ends)
    for begin in range(len(ways.ends)):
        back = []
        place = begin
        while walks[place] is None:
            walks[place] = begin
            back.append(place)
            place = ways.ends[place][0]
        if walks[place] == begin:
            ring = back[back.index(place):]
            if sum([ways.prices[at][0] for at in ring]) > 0:
                return [(at, 0) for at in ring]
    return None


def factor_of(ways):
    """Return the factor of a rule of which these are the ways, or None if it has none."""
    if ring_of_none(ways) is not None:
        return None
    return best_ring(ways.ends, ways.prices, ways.growths)[0]


def factor(rule, b):
    """Return the factor of a rule that is not unfit, as a fraction, or None if it has none."""
    return factor_of(ways_of(rule, b))


def paper_of_none(rule, b):
    """Return a paper of none of a rule that is not unfit, or None if it has a factor."""
    ways = ways_of(rule, b)
    ring = ring_of_none(ways)
    return None if ring is None else way_and_ring(ways, ring)


def met_paper(rule, b, p, q):
    """Return a met paper for (p, q) of a rule that has a factor, or None if there is none."""
    ways = ways_of(rule, b)
    quotient, ring = best_ring(ways.ends, ways.prices, ways.growths)
    if p * quotient[1] > q * quotient[0]:
        return None
    return way_and_ring(ways, ring)


def greatest_sums(ways, p, q):
    """Return the ways with the greatest q * price - p * growth to all places, or None if there are none."""
    climb = Climb(ways.ends)
    ring = climb.climb(mixed(ways.prices, ways.growths, p, q))
    return climb if ring is None else None


def kept_paper(rule, b, p, q):
    """Return a kept paper for (p, q) of a rule that is not unfit, or None if there is none."""
    ways = ways_of(rule, b)
    climb = greatest_sums(ways, p, q)
    if climb is None:
        return None
    return tuple(sorted(list(zip(ways.found, climb.sums))))


def excess(rule, b, p, q):
    """Return the excess of a rule that is not unfit for (p, q), or None if it has none."""
    climb = greatest_sums(ways_of(rule, b), p, q)
    return None if climb is None else max(climb.sums)


def excess_paper(rule, b, p, q):
    """Return an excess paper of a rule that is not unfit for (p, q), or None if there is none."""
    # The first place has the number 0, and no number is greater than it has to be.
    return kept_paper(rule, b, p, q)


def excess_row(rule, b, p, q):
    """Return a need row at which the excess for (p, q) is reached, or None if there is none."""
    climb = greatest_sums(ways_of(rule, b), p, q)
    if climb is None:
        return None
    return needs_of(steps_to(climb.steps, climb.sums.index(max(climb.sums))))


def is_like_a_place(value):
    """Return whether a value is a triple of two integers and a tuple of integers."""
    if not isinstance(value, tuple) or len(value) != 3 or not isinstance(value[2], tuple):
        return False
    return all([is_integer(number) for number in value[:2] + value[2]])


def is_like_a_kept_paper(value, numbers):
    """Return whether a value is a tuple of pairs of a place come to and an integer."""
    if not isinstance(value, tuple) or not all([is_pair(pair) for pair in value]):
        return False
    return all([is_like_a_place(place) and place in numbers and is_integer(number) for place, number in value])


def judge_steps(ways, told, p, q, value):
    """Return the first fault of the steps of what should be a kept paper that tells a dict, or None."""
    for k, (place, number) in enumerate(value):
        at = ways.numbers[place]
        for n, end in enumerate(ways.ends[at]):
            worth = q * ways.prices[at][n] - p * ways.growths[at][n]
            late = ways.found[end]
            if late not in told or told[late] < number + worth:
                return ("step", k, n)
    return None


def judge_kept(rule, b, p, q, value):
    """Return the first fault of what should be a kept paper for (p, q), or None if it is one."""
    ways = ways_of(rule, b)
    if not is_like_a_kept_paper(value, ways.numbers):
        return ("form",)
    told = {place: number for place, number in value}
    return first_fault([
        fault_at("order", [k > 0 and value[k - 1][0] >= value[k][0] for k in range(len(value))]),
        None if ways.found[0] in told else ("start",),
        judge_steps(ways, told, p, q, value),
    ])


def is_row_up_to(value, most):
    """Return whether a value is a tuple of needs up to a most."""
    return isinstance(value, tuple) and all([is_number(need) and need <= most for need in value])


def is_like_a_ring_paper(value, most):
    """Return whether a value is a pair of tuples of needs up to a most, the second one not empty."""
    return is_pair(value) and is_row_up_to(value[0], most) and is_row_up_to(value[1], most) and len(value[1]) > 0


def gone(rule, b, place, needs):
    """Return where some needs lead from a place, and what their prices and growths add up to."""
    paid = grown = 0
    for need in needs:
        place, price, growth = led_by(rule, b, place, need)
        paid = paid + price
        grown = grown + growth
    return (place, paid, grown)


def judge_ring(rule, b, value, growth_fits, price_fits):
    """Return the first fault of a way and a ring whose growth and price should fit, or None."""
    require_not_too_great(rule, b)
    if not is_like_a_ring_paper(value, rule[0]):
        return ("form",)
    begin = gone(rule, b, first_place(rule, b), value[0])[0]
    end, paid, grown = gone(rule, b, begin, value[1])
    if end != begin:
        return ("ring",)
    if not growth_fits(grown):
        return ("growth",)
    return None if price_fits(paid, grown) else ("price",)


def judge_met(rule, b, p, q, value):
    """Return the first fault of what should be a met paper for (p, q), or None if it is one."""
    return judge_ring(
        rule, b, value,
        lambda grown: grown > 0,
        lambda paid, grown: q * paid >= p * grown,
    )


def judge_none(rule, b, value):
    """Return the first fault of what should be a paper of none, or None if it is one."""
    return judge_ring(
        rule, b, value,
        lambda grown: grown == 0,
        lambda paid, grown: paid > 0,
    )
