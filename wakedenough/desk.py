"""Desks: a sheet that acts change, and questions about what stands on it."""

from wakedenough.acts import refusal, sheet_behind
from wakedenough.errors import BadAct, NothingDone, UnknownName
from wakedenough.factors import factor_of
from wakedenough.places import ways_of
from wakedenough.questions import (
    best_of, inside_of, least_of, menu_factor, paid_of, paper_fault, price_of_rule, quotient_of, runs_of_sight,
    served_rule, unmet_of,
)


class Desk:
    """A desk with its sheet, its acts, its marks, and what it knows of factors."""

    def __init__(self):
        self.now = (1, 0, ())
        # The acts that are done, each behind the sheet ahead of it, and those that can be done again.
        self.done = []
        self.undone = []
        self.marked = {}
        self.known = {}
        self.looked = 0

    def sheet(self):
        """Return the sheet."""
        return self.now

    def act_word(self, act):
        """Return the word with which an act cannot be done now, or None."""
        return refusal(self.now, act)

    def do(self, act):
        """Do an act; return how many acts are done then."""
        word = self.act_word(act)
        if word is not None:
            raise BadAct(word)
        self.undone = []
        return self.go_behind(act)

    def go_behind(self, act):
        """Do an act that can be done; return how many acts are done then."""
        self.done.append((self.now, act))
        self.now = sheet_behind(self.now, act)
        return len(self.done)

    def undo(self):
        """Take the last act back; return how many acts are done then."""
        if not self.done:
            raise NothingDone()
        self.now, act = self.done.pop()
        self.undone.append(act)
        return len(self.done)

    def redo(self):
        """Do the act again that was taken back last; return how many acts are done then."""
        if not self.undone:
            raise NothingDone()
        return self.go_behind(self.undone.pop())

    def acts(self):
        """Return the list of the acts that are done."""
        return [act for _, act in self.done]

    def least(self, name):
        """Return the least cost of the need row with a name."""
        return least_of(self.now, name)

    def paid(self, name):
        """Return what the sight runner pays for the need row with a name."""
        return paid_of(self.now, name)

    def quotient(self, name):
        """Return what is paid for the need row with a name by its least cost, or None if this is 0."""
        return quotient_of(self.now, name)

    def runs(self, name):
        """Return the sight runner's run on the need row with a name."""
        return runs_of_sight(self.now, name)

    def factor(self, name):
        """Return the factor of the rule with a name, or None if it has none."""
        asked = (served_rule(self.now, name), self.now[0])
        if asked not in self.known:
            ways = ways_of(asked[0], asked[1])
            self.known[asked] = factor_of(ways)
            self.looked += 1
        return self.known[asked]

    def unmet(self, name):
        """Return a shortest need row that the rule with a name does not serve, or None."""
        return unmet_of(self.now, name)

    def price(self, name, needs):
        """Return what the rule with a name pays on the need row with another one."""
        return price_of_rule(self.now, name, needs)

    def best(self, name):
        """Return the least cost of the slot row with a name."""
        return best_of(self.now, name)

    def inside(self, name):
        """Return what the inner runner pays for the slot row with a name."""
        return inside_of(self.now, name)

    def menu(self, name):
        """Return the least factor of the slots of the slot row with a name as a menu."""
        return menu_factor(self.now, name)

    def paper(self, row, prices, slots):
        """Return the first fault of the row and the prices with two names as a paper for slots, or None."""
        return paper_fault(self.now, row, prices, slots)

    def work(self):
        """Return how often the desk has looked for a factor."""
        return self.looked

    def mark(self, name):
        """Let a name be a mark for the number of acts that are done."""
        self.marked[name] = len(self.done)

    def since(self, name):
        """Return how many acts more are done than at a mark; raise UnknownName if there is none."""
        if not isinstance(name, str) or name not in self.marked:
            raise UnknownName(name)
        return len(self.done) - self.marked[name]

    def marks(self):
        """Return the ascending list of the names of the marks."""
        return sorted(self.marked)

    def twin(self):
        """Return a desk that is as this one is now, and goes its own way from then on."""
        other = Desk()
        other.now = self.now
        other.done = list(self.done)
        other.undone = list(self.undone)
        other.marked = dict(self.marked)
        other.known = {asked: self.known[asked] for asked in self.known}
        other.looked = self.looked
        return other
