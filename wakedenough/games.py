"""The game of calls and answers over the places of a menu: which calls make worths grow without end."""

from heapq import heappop, heappush

from wakedenough.menus import first_place, numbers_for, turns_by_moves, turns_of
from wakedenough.ways import Ways, best_ring, fraction, mixed


def turns_at(menu, b, place):
    """Return the list of all turns at a place, call by call."""
    found = []
    for call in range(len(menu)):
        found.extend(turns_of(menu, b, place, call))
    return found


class Game:
    """The places that any turns come to from the first one of a menu, and all turns at them, call by call."""

    def __init__(self, menu, b):
        self.slots = menu
        self.b = b
        self.ways = Ways(first_place(menu, b), lambda place: turns_at(menu, b, place))

    def worths(self, p, q):
        """Return for each place, call by call, the pairs of where an answer leads and its worth, number by number."""
        found = []
        for ends, worths in zip(self.ways.ends, mixed(self.ways.prices, self.ways.growths, p, q)):
            steps = list(zip(ends, worths))
            choices = []
            for slot in self.slots:
                many = len(numbers_for(slot))
                choices.append(steps[:many])
                steps = steps[many:]
            found.append(choices)
        return found

    def called(self, calls):
        """Return the ways to which calls lead from the first place, place by place, and all answers."""
        numbers = self.ways.numbers
        first = self.ways.found[0]
        return Ways(first, lambda place: turns_of(self.slots, self.b, place, calls[numbers[place]]))

    def moved(self, worths, lefts):
        """Return the ways to which all calls lead from the first place, place by place, and the best moves."""
        first = self.ways.found[0]
        return Ways(first, lambda place: turns_by_moves(self.slots, self.b, place, self.moves_at(worths, lefts, place)))

    def moves_at(self, worths, lefts, place):
        """Return the moves at a place, whose left is a number, behind which the least is left."""
        choices = worths[self.ways.numbers[place]]
        return tuple([best_number(slot, answers, lefts) for slot, answers in zip(self.slots, choices)])


def best_number(slot, answers, lefts):
    """Return the number to answer a slot with behind which the least is left."""
    rests = [(worth + lefts[end], k) for k, (end, worth) in enumerate(answers) if lefts[end] is not None]
    return slot[0] + min(rests)[1]


def least_by(answers, lefts):
    """Return the least of a worth and the left where it leads, or None if all of these are endless."""
    return min([worth + lefts[end] for end, worth in answers if lefts[end] is not None], default=None)


def better_call(choices, left, lefts):
    """Return the call that makes the greatest left, if this is greater than the left now, or None."""
    best = None
    for k, answers in enumerate(choices):
        least = least_by(answers, lefts)
        if least is None:
            return k
        if least > left:
            best = k
            left = least
    return best


def better_calls(worths, calls, lefts):
    """Return the calls, those of all places whose left is a number being the best ones."""
    found = list(calls)
    for place, left in enumerate(lefts):
        if left is not None:
            call = better_call(worths[place], left, lefts)
            if call is not None:
                found[place] = call
    return found


def steps_back(worths, calls, lefts):
    """Return for each place the pairs of a place whose call leads there, and how far that is above its left."""
    back = [[] for _ in calls]
    for place, call in enumerate(calls):
        if call is not None and lefts[place] is not None:
            for end, worth in worths[place][call]:
                if lefts[end] is not None:
                    back[end].append((place, worth + lefts[end] - lefts[place]))
    return back


def lefts_by(worths, calls, lefts):
    """Return the lefts by some calls, of lefts that no turn by them is below."""
    # So how far the lefts rise is the least sum of numbers of at least 0: what is nearest is settled first.
    back = steps_back(worths, calls, lefts)
    found = [None] * len(calls)
    queue = []
    for place, call in enumerate(calls):
        if call is None:
            heappush(queue, (0, place))
    while queue:
        rise, place = heappop(queue)
        if found[place] is None:
            found[place] = lefts[place] + rise
            for ahead, more in back[place]:
                heappush(queue, (rise + more, ahead))
    return found


def settled(worths):
    """Return calls, None where there is none, and lefts, such that no call makes a left greater."""
    calls = [None] * len(worths)
    lefts = [0] * len(worths)
    better = better_calls(worths, calls, lefts)
    while better != calls:
        calls = better
        lefts = lefts_by(worths, calls, lefts)
        better = better_calls(worths, calls, lefts)
    return (calls, lefts)


def least_quotient(ways):
    """Return the least quotient of the price and the growth of a ring of some ways."""
    p, q = best_ring(ways.ends, ways.growths, ways.prices)[0]
    return (q, p)


def greatest_quotient(ways):
    """Return the greatest quotient of the price and the growth of a ring of some ways, or 1 if it is below 1."""
    p, q = best_ring(ways.ends, ways.prices, ways.growths)[0]
    return (p, q) if p > q else (1, 1)


def halfway(one, other):
    """Return the fraction halfway between two ones."""
    return fraction(one[0] * other[1] + other[0] * one[1], 2 * one[1] * other[1])


def least_kept(game, high):
    """Return the least factor that can be kept, and calls that show that no lesser one can be, None for 1.

    One that can be kept, high, is told. Both bounds become quotients of rings, so they meet."""
    low = (1, 1)
    shown = None
    while low != high:
        p, q = halfway(low, high)
        worths = game.worths(p, q)
        calls, lefts = settled(worths)
        if lefts[0] is None:
            shown = calls
            low = least_quotient(game.called(calls))
        else:
            high = greatest_quotient(game.moved(worths, lefts))
    return (low, shown)
