"""Halls: a fleet goes through a day, as a runner tells it."""

from wakedenough.errors import NothingDone
from wakedenough.machines import Fleet
from wakedenough.requests import running_counts, spans_of
from wakedenough.words import is_number


class Hall:
    """A fleet, a day, a runner, and what has become of the requests so far."""

    def __init__(self, names, b, w, day, runner):
        self.fleet = Fleet(names)
        self.b = b
        self.w = w
        self.day = day
        self.runner = runner
        self.row_waiting = []
        self.rests = {}
        self.names_served = []
        self.needs_so_far = []
        self.row_so_far = []
        self.unmet_so_far = []
        self.entries = []

    def tick(self):
        """Return the tick."""
        return self.fleet.tick()

    def is_over(self):
        """Return whether the day is over."""
        return self.tick() >= len(self.day)

    def step(self):
        """Go through a tick; return its need, what the runner returned, and how many machines are on."""
        if self.is_over():
            raise NothingDone()
        falls, mends, requests = self.day[self.tick()]
        self.free_served()
        self.fall_and_mend(falls, mends)
        self.wait_behind(requests)
        seen = self.needs_seen()
        told = self.runner.look(seen)
        x = told if is_number(told) else 0
        started = self.fleet.set_to(x)[0]
        self.give_machines()
        self.needs_so_far.append(seen[0])
        self.row_so_far.append(self.fleet.many_on())
        self.book(started)
        self.go_on()
        return (seen[0], x, self.row_so_far[-1])

    def request_of(self, name):
        """Return the request for which a busy machine works."""
        return self.fleet.state(name)[1]

    def free_served(self):
        """Free the machines whose requests have been served."""
        for name in self.fleet.those("busy"):
            request = self.request_of(name)
            if self.rests[request] == 0:
                self.fleet.free(name)
                self.names_served.append(request)
                del self.rests[request]

    def fall_and_mend(self, falls, mends):
        """Let machines fall, whose requests wait ahead of all others then, and mend machines."""
        fallen = [name for name in falls if self.fleet.state(name)[0] != "fallen"]
        requests = [self.fleet.fall(name) for name in fallen]
        self.row_waiting = [request for request in requests if request is not None] + self.row_waiting
        for name in mends:
            if self.fleet.state(name)[0] == "fallen":
                self.fleet.mend(name)

    def wait_behind(self, requests):
        """Let requests wait behind all others."""
        for name, length in requests:
            self.rests[name] = length
            self.row_waiting.append(name)

    def needs_seen(self):
        """Return the need of this tick, and of those ahead that the runner sees."""
        coming = self.day[self.tick() + 1:self.tick() + self.w + 1]
        spans = [(0, rest) for rest in list(self.rests.values())]
        spans.extend([(ahead + 1, length) for ahead, length in spans_of(coming)])
        return running_counts(len(coming) + 1, spans)

    def give_machines(self):
        """Let the waiting requests take machines, as long as one is idle."""
        given = len(self.fleet.those("idle"))
        for request in self.row_waiting[:given]:
            self.fleet.take(request)
        self.row_waiting = self.row_waiting[given:]
        if self.row_waiting:
            self.unmet_so_far.append((self.tick(), len(self.row_waiting)))

    def book(self, started):
        """Put into the books what this tick costs."""
        now = self.tick()
        for name in started:
            self.entries.append((now, "start", name, None, self.b))
        for name in self.fleet.names():
            word, request = self.fleet.state(name)
            if word == "busy":
                self.entries.append((now, "work", name, request, 1))
            elif word == "idle":
                self.entries.append((now, "idle", name, None, 1))

    def go_on(self):
        """Go on by a tick: what runs has run for a tick more."""
        for name in self.fleet.those("busy"):
            request = self.request_of(name)
            self.rests[request] -= 1
        self.fleet.go_on()

    def states(self):
        """Return the dict from the names of the machines to their states."""
        return {name: self.fleet.state(name) for name in self.fleet.names()}

    def waiting(self):
        """Return the list of the pairs of the requests that wait and their rests."""
        return [(request, self.rests[request]) for request in self.row_waiting]

    def served(self):
        """Return the list of the requests that have been served."""
        return list(self.names_served)

    def needs(self):
        """Return the needs so far."""
        return tuple(self.needs_so_far)

    def row(self):
        """Return how many machines were on so far."""
        return tuple(self.row_so_far)

    def unmet(self):
        """Return the list of the pairs of a tick and of how many requests were unmet at it."""
        return list(self.unmet_so_far)

    def books(self):
        """Return the list of the entries so far."""
        return list(self.entries)
