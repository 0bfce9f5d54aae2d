"""Runners and players that go by papers, and what comes of it when they play."""

from wakedenough.menus import first_place, turn


def told_by(rows):
    """Return the dict from the places of the rows of a paper to what these tell to do there."""
    return {row[0]: row[1] for row in rows}


class PaperRunner:
    """The runner of a rule paper."""

    def __init__(self, menu, b, paper):
        self.slots = menu
        self.b = b
        self.moves = told_by(paper)
        self.at = first_place(menu, b)

    def look(self, seen):
        """Return the number that the paper tells for the slot of this tick, and go on by a tick."""
        call = self.slots.index(seen[0])
        x = self.moves[self.at][call]
        self.at = turn(self.slots, self.b, self.at, call, x)[2]
        return x

    def here(self):
        """Return the place at which the runner is."""
        return self.at


class PaperPlayer:
    """The player of a player paper."""

    def __init__(self, menu, b, paper):
        self.slots = menu
        self.b = b
        self.calls = told_by(paper[1])
        self.at = first_place(menu, b)

    def next_call(self):
        """Return the number of the slot that the paper calls."""
        return self.calls[self.at]

    def answer(self, x):
        """Go on by a tick, by the number that answers the call."""
        self.at = turn(self.slots, self.b, self.at, self.next_call(), x)[2]

    def here(self):
        """Return the place at which the player is."""
        return self.at


def played(menu, b, paper, runner, ticks):
    """Return the call row and the fleet row of a runner that plays against a player paper for so many ticks."""
    player = PaperPlayer(menu, b, paper)
    calls = []
    row = []
    for _ in range(ticks):
        call = player.next_call()
        x = runner.look((menu[call],))
        player.answer(x)
        calls.append(call)
        row.append(x)
    return (tuple(calls), tuple(row))
