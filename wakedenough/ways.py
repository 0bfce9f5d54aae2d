"""Ways through finitely many places: their greatest sums, and the rings with the greatest quotient."""

from math import gcd


class Ways:
    """The places come to from a first one, nearest first, and all steps that lead on from each of them."""

    def __init__(self, first, lead):
        self.found = [first]
        self.numbers = {first: 0}
        self.ends = []
        self.prices = []
        self.growths = []
        while len(self.ends) < len(self.found):
            self.go_on(lead(self.found[len(self.ends)]))

    def go_on(self, steps):
        """Keep the steps, triples of a place, a price and a growth, of the next place."""
        for step in steps:
            if step[0] not in self.numbers:
                self.numbers[step[0]] = len(self.found)
                self.found.append(step[0])
        self.ends.append([self.numbers[step[0]] for step in steps])
        self.prices.append([step[1] for step in steps])
        self.growths.append([step[2] for step in steps])


def mixed(gains, losses, p, q):
    """Return for each step q times its gain less p times its loss."""
    return [[q * gain - p * loss for gain, loss in zip(some, others)] for some, others in zip(gains, losses)]


def first_steps(ends):
    """Return for each place the step, a pair (place, number), by which it is come to first, None for place 0."""
    steps = [None] * len(ends)
    found = [0]
    at = 0
    while at < len(found):
        place = found[at]
        for k, end in enumerate(ends[place]):
            if end != 0 and steps[end] is None:
                steps[end] = (place, k)
                found.append(end)
        at += 1
    return steps


def steps_to(steps, place):
    """Return the steps that lead from place 0 to a place."""
    way = []
    while steps[place] is not None:
        way.append(steps[place])
        place = steps[place][0]
    return way[::-1]


class Climb:
    """For each place a way from place 0 to it, and its sum; the ways are exchanged for ones with greater sums."""

    def __init__(self, ends):
        self.ends = ends
        self.steps = first_steps(ends)
        self.sums = []

    def climb(self, worths):
        """Return None when no sum can be greater, or a ring, as steps, whose worths are above 0 together."""
        self.sums = [None] * len(self.ends)
        self.add_up(worths)
        used = [None] * len(self.ends)
        new = list(range(len(self.ends)))
        while new:
            kept = list(self.steps)
            self.exchange(worths, new, used)
            ring = self.add_up(worths)
            if ring is not None:
                self.steps = kept
                return ring
            new = [place for place, total in enumerate(self.sums) if total != used[place]]
        return None

    def exchange(self, worths, new, used):
        """Take each step from new places that makes a greater sum, and keep what sums were used for that."""
        for place in new:
            total = self.sums[place]
            used[place] = total
            for k, worth in enumerate(worths[place]):
                end = self.ends[place][k]
                if total + worth > self.sums[end]:
                    self.sums[end] = total + worth
                    self.steps[end] = (place, k)

    def add_up(self, worths):
        """Make the sums those of the ways as they are now; return a ring that stands in the way, or None."""
        sums = [None] * len(self.ends)
        if self.steps[0] is None:
            sums[0] = 0
        walks = [None] * len(self.ends)
        for begin in range(len(self.ends)):
            back = []
            place = begin
            while sums[place] is None and walks[place] != begin:
                walks[place] = begin
                back.append(place)
                place = self.steps[place][0]
            if sums[place] is None:
                # A ring comes about only by steps that made sums greater: so it has worths above 0 together.
                return [self.steps[end] for end in back[back.index(place):][::-1]]
            for end in back[::-1]:
                place, k = self.steps[end]
                sums[end] = sums[place] + worths[place][k]
        self.sums = sums
        return None


def sum_along(steps, worths):
    """Return what the worths of some steps add up to."""
    return sum([worths[place][k] for place, k in steps])


def fraction(p, q):
    """Return p / q as a fraction in least form."""
    common = gcd(p, q)
    return (p // common, q // common)


def best_ring(ends, gains, losses):
    """Return the greatest quotient of gains and losses of a ring, and such a ring, as steps.

    Some ring has gains above 0, and each one that has them has losses above 0, too."""
    climb = Climb(ends)
    quotient = (0, 1)
    best = None
    ring = climb.climb(gains)
    while ring is not None:
        best = ring
        quotient = fraction(sum_along(ring, gains), sum_along(ring, losses))
        ring = climb.climb(mixed(gains, losses, quotient[0], quotient[1]))
    return (quotient, best)


def least_sums(ends, worths):
    """Return for each place the least sum of a way from place 0 to it; no ring has worths below 0 together."""
    climb = Climb(ends)
    climb.climb([[-worth for worth in some] for some in worths])
    return [-total for total in climb.sums]
