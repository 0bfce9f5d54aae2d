"""Fleets: machines with names that are started, work, are stopped, fall and are mended."""

from wakedenough.errors import BadAct, UnknownName


class Fleet:
    """A fleet of machines, at first all off."""

    def __init__(self, names):
        self.now = 0
        self.told = {name: ("off", 0) for name in sorted(names)}

    def tick(self):
        """Return the tick."""
        return self.now

    def names(self):
        """Return the ascending list of the names of the machines."""
        return list(self.told)

    def state(self, name):
        """Return the state of a machine; raise UnknownName if there is none with this name."""
        if not isinstance(name, str) or name not in self.told:
            raise UnknownName(name)
        return self.told[name]

    def those(self, word):
        """Return the names of all machines with a word: the oldest first, or ascending."""
        found = [(state[1], name) for name, state in self.told.items() if state[0] == word]
        if word in ("off", "idle"):
            found = sorted(found)
        return [name for _, name in found]

    def many_on(self):
        """Return how many machines are on."""
        return len(self.those("idle")) + len(self.those("busy"))

    def fall(self, name):
        """Let a machine fall; return the request for which it worked, or None."""
        word, since = self.state(name)
        if word == "fallen":
            raise BadAct("fallen")
        self.told[name] = ("fallen", self.now)
        return since if word == "busy" else None

    def mend(self, name):
        """Make a machine that has fallen one that is off."""
        if self.state(name)[0] != "fallen":
            raise BadAct("fallen")
        self.told[name] = ("off", self.now)

    def free(self, name):
        """Make a busy machine idle."""
        if self.state(name)[0] != "busy":
            raise BadAct("busy")
        self.told[name] = ("idle", self.now)

    def set_to(self, x):
        """Start or stop machines until x are on, as far as can be; return which were started and which stopped."""
        on = self.many_on()
        started = self.those("off")[:max(0, x - on)]
        stopped = self.those("idle")[:max(0, on - x)]
        for name in started:
            self.told[name] = ("idle", self.now)
        for name in stopped:
            self.told[name] = ("off", self.now)
        return (started, stopped)

    def take(self, request):
        """Let the youngest idle machine work for a request; return its name, or None if none is idle."""
        idle = [(-state[1], name) for name, state in self.told.items() if state[0] == "idle"]
        if not idle:
            return None
        name = min(idle)[1]
        self.told[name] = ("busy", request)
        return name

    def go_on(self):
        """Go on by a tick; return the new one."""
        self.now += 1
        return self.now
