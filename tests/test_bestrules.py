"""The best of all rules for a menu: the least factor, and the papers that show it."""

import fractions
import itertools
import random
import time
import unittest

import helper
from helper import W
from wakedenough.bestrules import (
    inner_paper, judge_lower_paper, judge_player_paper, judge_rule_paper, least_factor, lower_paper, player_paper, rule_paper, worst_factor,
)
from wakedenough.errors import TooGreat
from wakedenough.inner import inner_account, inner_row
from wakedenough.menus import menu_size

# Its least factor is 1: what is on costs nothing, so nobody lets it go.
EASY = ((0, 1, 0, (0,)), (1, 1, 0, ()))


def calls_factor(menu, b, first, calls):
    """The least quotient of a ring to which some calls lead, endless as None."""
    answers = lambda place: [(place, x) for x in helper.numbers_of(menu[calls[place]])]
    ends = helper.come_to(first, lambda place: [helper.plain_turn(menu, b, place, calls[place], x)[2] for _, x in answers(place)])
    quotients = []
    for ring in helper.simple_rings(ends):
        turns = [helper.plain_turn(menu, b, place, calls[place], menu[calls[place]][0] + k) for place, k in ring]
        price, growth = sum(turned[0] for turned in turns), sum(turned[1] for turned in turns)
        if price == 0 and growth == 0:
            quotients.append(fractions.Fraction(0))
        elif growth > 0:
            quotients.append(fractions.Fraction(price, growth))
    return min(quotients)


def plain_least_factor(menu, b):
    """By going over all choices of a call for each place (S8.7)."""
    first = (0, (b,) * menu[0][1])
    lead = lambda place: [helper.plain_turn(menu, b, place, k, x)[2] for k, slot in enumerate(menu) for x in helper.numbers_of(slot)]
    found = sorted(helper.come_to(first, lead))
    best = fractions.Fraction(1)
    for choice in itertools.product(range(len(menu)), repeat=len(found)):
        best = max(best, calls_factor(menu, b, first, dict(zip(found, choice))))
    return (best.numerator, best.denominator)


def is_integer(value):
    return type(value) is int


def is_place(menu, b, value):
    return type(value) is tuple and len(value) == 2 and type(value[1]) is tuple and all(map(is_integer, (value[0],) + value[1])) \
        and value in helper.plain_menu_places(menu, b)


def is_told(menu, sort, told):
    if sort == "rule":
        return type(told) is tuple and len(told) == len(menu) and all(is_integer(x) and x in helper.numbers_of(slot) for x, slot in zip(told, menu))
    return is_integer(told) and 0 <= told < len(menu)


def plain_form(menu, b, sort, value):
    """Whether a value has the form of a paper, and its rows and many."""
    many = 1
    if sort != "rule":
        if type(value) is not tuple or len(value) != 2 or not is_integer(value[0]) or value[0] < 1:
            return False
        many, value = value
    members = 4 if sort == "lower" else 3
    if type(value) is not tuple:
        return False
    return all(type(row) is tuple and len(row) == members and is_place(menu, b, row[0]) and is_told(menu, sort, row[1])
               and all(map(is_integer, row[2:])) for row in value)


def plain_fault(menu, b, p, q, sort, value):
    """The first fault of what should be a rule, player or lower paper, by the words of S8.5 and of the interface."""
    if not plain_form(menu, b, sort, value):
        return ("form",)
    many, rows = (1, value) if sort == "rule" else value
    for n in range(1, len(rows)):
        if not rows[n][0] > rows[n - 1][0]:
            return ("order", n)
    told = {row[0]: row for row in rows}
    if (0, (b,) * menu[0][1]) not in told:
        return ("first",)
    for n, row in enumerate(rows):
        turns = enumerate(row[1]) if sort == "rule" else [(row[1], x) for x in helper.numbers_of(menu[row[1]])]
        for k, x in turns:
            price, growth, late = helper.plain_turn(menu, b, row[0], k, x)
            worth = q * price - p * growth
            if late not in told:
                is_right = False
            elif sort == "rule":
                is_right = told[late][2] >= row[2] + worth
            elif sort == "player":
                is_right = told[late][2] <= row[2] + many * worth - 1
            else:
                is_right = told[late][2] <= row[2] + worth and told[late][3] <= row[3] + many * (price + growth) - 1
            if not is_right:
                return ("move", n, k if sort == "rule" else x)
    return None


JUDGES = {"rule": judge_rule_paper, "player": judge_player_paper, "lower": judge_lower_paper}


def places_by_paper(menu, b, sort, value):
    """The places to which the turns by a paper lead from the first one."""
    rows = value if sort == "rule" else value[1]
    told = {row[0]: row[1] for row in rows}
    turns = lambda place: enumerate(told[place]) if sort == "rule" else [(told[place], x) for x in helper.numbers_of(menu[told[place]])]
    return sorted(helper.come_to((0, (b,) * menu[0][1]), lambda place: [helper.plain_turn(menu, b, place, k, x)[2] for k, x in turns(place)]))


def rounds(value):
    """All integers in a paper."""
    return [value] if is_integer(value) else [number for part in value for number in rounds(part)]


def small_menus():
    source = random.Random(231)
    found = [(W, 1), (W, 2), (W, 3), (W, 6), (EASY, 1), (EASY, 4), (((0, 1, 0, (5,)),), 3), (((1, 1, 2, ()),), 3), (W + EASY, 4), (W[:1], 2)]
    found += [(helper.plain_menu(most), b) for most, b in [(1, 1), (1, 5), (2, 2), (2, 3), (3, 2), (4, 1)]]
    while len(found) < 110:
        most = source.choice((1, 1, 2, 2, 3))
        b = source.randrange(1, {1: 9, 2: 5, 3: 3}[most])
        found.append((helper.random_menu(source, most, source.choice((1, 2, 2, 3, 4)), source.choice((1, 2, 3, 8))), b))
    return found


SMALL = small_menus()


class Factors(unittest.TestCase):
    def test_worst(self):
        self.assertEqual([worst_factor(b) for b in (1, 2, 3, 4, 5, 6)], [(1, 1), (2, 1), (7, 3), (5, 2), (13, 5), (8, 3)])
        self.assertEqual(worst_factor(10 ** 6), (1499999, 500000))

    def test_w(self):
        for b in list(range(1, 26)) + [60, 149]:
            self.assertEqual(least_factor(W, b), worst_factor(b))

    def test_plain_menus(self):
        for most, b in [(1, 1), (1, 2), (1, 3), (1, 30), (1, 149), (2, 1), (2, 4), (2, 11), (3, 1), (3, 5), (4, 2), (5, 2), (9, 1), (15, 1)]:
            menu = helper.plain_menu(most)
            told = fractions.Fraction(2 * b, b + 1)
            self.assertEqual(least_factor(menu, b), (told.numerator, told.denominator), (most, b))

    def test_one(self):
        for menu, b in [(EASY, 1), (EASY, 9), (((0, 1, 0, (5,)),), 3), (((1, 1, 2, ()),), 3), (W[:1], 2), (W[1:], 5)]:
            self.assertEqual(least_factor(menu, b), (1, 1))
            self.assertIsNone(lower_paper(menu, b))

    def test_against_all_choices_of_calls(self):
        source = random.Random(232)
        tried = [(W, 2), (EASY, 2), (helper.plain_menu(1), 3)]
        while len(tried) < 40:
            most, b, many = source.choice([(1, 1, 2), (1, 2, 2), (1, 3, 2), (1, 2, 3), (2, 1, 2)])
            tried.append((helper.random_menu(source, most, many, source.choice((1, 2, 4))), b))
        above = set()
        for menu, b in tried:
            found = least_factor(menu, b)
            self.assertEqual(found, plain_least_factor(menu, b), (menu, b))
            above.add(found)
        self.assertGreater(len(above), 5)

    def test_never_above_the_worst(self):
        for menu, b in SMALL:
            p, q = least_factor(menu, b)
            self.assertGreaterEqual(p, q)
            self.assertLessEqual(fractions.Fraction(p, q), fractions.Fraction(3 * b - 2, b))
            self.assertEqual((p, q), (fractions.Fraction(p, q).numerator, fractions.Fraction(p, q).denominator))


def around(told):
    """Fractions of at least 1 in least form, with how each is to a told one."""
    value = fractions.Fraction(*told)
    found = [(value, 0), (value + 1, 1), (fractions.Fraction(10 ** 6), 1), (value + fractions.Fraction(1, 999 * told[1]), 1)]
    if value > 1:
        found += [(max(fractions.Fraction(1), value - fractions.Fraction(1, 999 * told[1])), -1), (fractions.Fraction(1), -1), ((value + 1) / 2, -1)]
    return [((each.numerator, each.denominator), side) for each, side in found]


class Papers(unittest.TestCase):
    def check_places(self, menu, b, sort, paper):
        rows = paper if sort == "rule" else paper[1]
        self.assertEqual([row[0] for row in rows], places_by_paper(menu, b, sort, paper))
        self.assertTrue(all(abs(number) < 10 ** 30 for number in rounds(paper)))

    def test_just_one_of_two(self):
        for menu, b in SMALL:
            for (p, q), side in around(least_factor(menu, b)):
                rule, player = rule_paper(menu, b, p, q), player_paper(menu, b, p, q)
                self.assertEqual([rule is None, player is None], [side < 0, side >= 0], (menu, b, p, q))
                sort, paper = ("player", player) if side < 0 else ("rule", rule)
                self.assertIsNone(plain_fault(menu, b, p, q, sort, paper), (menu, b, p, q))
                self.assertIsNone(JUDGES[sort](menu, b, p, q, paper))
                self.check_places(menu, b, sort, paper)

    def test_papers_do_for_greater_and_for_lesser_fractions(self):
        for menu, b in SMALL[:40]:
            told = least_factor(menu, b)
            paper = rule_paper(menu, b, told[0], told[1])
            for (p, q), side in around(told):
                if side >= 0 and q == told[1]:
                    self.assertIsNone(judge_rule_paper(menu, b, p, q, paper))

    def test_lower_papers(self):
        for menu, b in SMALL:
            p, q = least_factor(menu, b)
            paper = lower_paper(menu, b)
            self.assertEqual(paper is None, (p, q) == (1, 1))
            if paper is not None:
                self.assertIsNone(plain_fault(menu, b, p, q, "lower", paper))
                self.assertIsNone(judge_lower_paper(menu, b, p, q, paper))
                self.check_places(menu, b, "lower", paper)
                self.assertEqual(judge_lower_paper(menu, b, p * 1000 + 1, q * 1000, paper)[0], "move")

    def test_w_by_hand(self):
        self.assertEqual(rule_paper(((1, 1, 2, ()),), 3, 1, 1)[0], ((0, (3,)), (1,), 0))
        # For b = 1 there are no rests: whoever goes on when its step is 0, and off when it is b, pays the least.
        self.assertIsNone(judge_rule_paper(W, 1, 1, 1, rule_paper(W, 1, 1, 1)))
        self.assertIsNone(player_paper(W, 1, 1, 1))
        self.assertIsNone(player_paper(W, 2, 2, 1))
        self.assertIsNotNone(player_paper(W, 2, 1999, 1000))


class InnerPapers(unittest.TestCase):
    def plain_inner(self, menu, b):
        """The inner paper by the last sentences of S8.7."""
        most = menu[0][1]

        def moves(place):
            found = []
            for k in range(len(menu)):
                steps = helper.plain_turn(menu, b, place, k, menu[k][0])[2][1]
                low, high = sum(step == 0 for step in steps), sum(step < b for step in steps)
                found.append(low if place[0] < low else high if place[0] > high else place[0])
            return tuple(found)

        ends = lambda place: [helper.plain_turn(menu, b, place, k, x)[2] for k, x in enumerate(moves(place))]
        rows = []
        for on, steps in sorted(helper.come_to((0, (b,) * most), ends)):
            rests = [2 * (b - 1) * (b - steps[y - 1]) if y > on else b * (b - 1 - steps[y - 1]) for y in range(1, most + 1)]
            number = fractions.Fraction(-sum(rests), 2 if b % 2 == 0 else 1)
            self.assertEqual(number.denominator, 1)
            rows.append(((on, steps), moves((on, steps)), number.numerator))
        return tuple(rows)

    def test_by_the_words(self):
        for menu, b in SMALL:
            p, q = worst_factor(b)
            paper = inner_paper(menu, b)
            self.assertEqual(paper, self.plain_inner(menu, b), (menu, b))
            self.assertIsNone(judge_rule_paper(menu, b, p, q, paper))
            self.assertIsNone(plain_fault(menu, b, p, q, "rule", paper))
            numbers = {row[0]: row[2] for row in paper}
            self.assertEqual(numbers[(0, (b,) * menu[0][1])], 0)
            self.assertEqual(max(numbers.values()), 0)

    def test_even_and_odd(self):
        self.assertEqual(inner_paper(W, 2), (((0, (1,)), (1, 0), -1), ((0, (2,)), (0, 0), 0), ((1, (0,)), (1, 1), -1), ((1, (1,)), (1, 0), 0)))
        self.assertEqual([row[2] for row in inner_paper(W, 3)], [-8, -4, 0, -6, -3, 0])

    def test_it_goes_as_the_inner_runner(self):
        source = random.Random(233)
        for menu, b in SMALL[:60]:
            told = {row[0]: row for row in inner_paper(menu, b)}
            calls = [source.randrange(len(menu)) for _ in range(25)]
            slots = tuple(menu[call] for call in calls)
            place, row, rests = (0, (b,) * menu[0][1]), [], []
            for call in calls:
                row.append(told[place][1][call])
                place = helper.plain_turn(menu, b, place, call, row[-1])[2]
                rests.append(-told[place][2] * (2 if b % 2 == 0 else 1))
            self.assertEqual(tuple(row), inner_row(slots, b))
            self.assertEqual(rests, [account[3] for account in inner_account(slots, b)])


def rule_example():
    return rule_paper(W, 3, 7, 3)


class Judges(unittest.TestCase):
    def papers(self):
        """A right paper of each sort for W with b 3, with the fraction that it is for."""
        return [("rule", 7, 3, rule_paper(W, 3, 7, 3)), ("player", 9, 4, player_paper(W, 3, 9, 4)), ("lower", 7, 3, lower_paper(W, 3))]

    def rows_of(self, sort, paper):
        return paper if sort == "rule" else paper[1]

    def with_rows(self, sort, paper, rows):
        return tuple(rows) if sort == "rule" else (paper[0], tuple(rows))

    def check(self, sort, p, q, value, fault):
        self.assertEqual(JUDGES[sort](W, 3, p, q, value), fault, (sort, value))
        self.assertEqual(plain_fault(W, 3, p, q, sort, value), fault, (sort, value))

    def test_right_ones(self):
        for sort, p, q, paper in self.papers():
            self.check(sort, p, q, paper, None)

    def test_form_of_whole_papers(self):
        for sort, p, q, paper in self.papers():
            for value in helper.ANYTHING + [list(paper), {"a": paper}, (paper,), self.rows_of(sort, paper)[0]]:
                # The empty tuple has the form of a rule paper, but has no first place.
                self.check(sort, p, q, value, ("first",) if sort == "rule" and value == () and type(value) is tuple else ("form",))

    def test_form_of_many(self):
        for sort, p, q, paper in self.papers()[1:]:
            for many in [0, -1, True, None, "1", (1,), [1]]:
                self.check(sort, p, q, (many, paper[1]), ("form",))
            self.check(sort, p, q, (1, list(paper[1])), ("form",))
            self.check(sort, p, q, paper + (1,), ("form",))

    def test_form_of_rows(self):
        for sort, p, q, paper in self.papers():
            rows = self.rows_of(sort, paper)
            for value in helper.ANYTHING:
                for at in range(len(rows[1])):
                    if at == 0 or type(value) is not int or at == 1 and sort == "rule":
                        row = helper.changed_at(rows[1], at, value)
                        self.check(sort, p, q, self.with_rows(sort, paper, helper.changed_at(rows, 1, row)), ("form",))
                self.check(sort, p, q, self.with_rows(sort, paper, rows + (value,)), ("form",))
            for wrong in [rows[2][:-1], rows[2] + (0,), list(rows[2])]:
                self.check(sort, p, q, self.with_rows(sort, paper, helper.changed_at(rows, 2, wrong)), ("form",))

    def test_form_of_places(self):
        wrong = [(2, (1,)), (-1, (1,)), (True, (1,)), (0, (4,)), (0, (-1,)), (0, (True,)), (0, ()), (0, (1, 2)), (0, [1]), [0, (1,)], (0, (1,), 0), (0, 1), (0, (None,))]
        for sort, p, q, paper in self.papers():
            for place in wrong:
                rows = self.rows_of(sort, paper)
                self.check(sort, p, q, self.with_rows(sort, paper, helper.changed_at(rows, 0, (place,) + rows[0][1:])), ("form",))
        for steps, fault in [((2, 2), ("move", 0, 1)), ((0, 2), ("first",)), ((2, 1), ("form",)), ((1, 3), ("form",)), ((3, 3), ("form",)), ((2,), ("form",)),
                             ((2, 2, 2), ("form",)), ((1, 0), ("form",)), ((-1, 2), ("form",))]:
            value = (((0, steps), (0, 1, 2), 0),)
            self.assertEqual(judge_rule_paper(helper.plain_menu(2), 2, 4, 3, value), fault, steps)
            self.assertEqual(plain_fault(helper.plain_menu(2), 2, 4, 3, "rule", value), fault, steps)

    def test_form_of_moves_and_calls(self):
        rows = rule_example()
        for moves in [(0,), (0, 0, 0), (0, 2), (-1, 0), (True, 0), [0, 0], 0, None, (0, None), ((0,), 0)]:
            self.check("rule", 7, 3, helper.changed_at(rows, 3, (rows[3][0], moves, rows[3][2])), ("form",))
        menu = helper.plain_menu(1)
        paper = rule_paper(menu, 2, 4, 3)
        self.assertEqual(judge_rule_paper(menu, 2, 4, 3, helper.changed_at(paper, 0, (paper[0][0], (0, 0), paper[0][2]))), ("form",))
        for sort, p, q, paper in self.papers()[1:]:
            for call in [2, -1, True, None, (0,), "0", 10 ** 40]:
                row = helper.changed_at(paper[1][3], 1, call)
                self.check(sort, p, q, (paper[0], helper.changed_at(paper[1], 3, row)), ("form",))

    def test_order(self):
        for sort, p, q, paper in self.papers():
            rows = self.rows_of(sort, paper)
            self.check(sort, p, q, self.with_rows(sort, paper, rows[::-1]), ("order", 1))
            self.check(sort, p, q, self.with_rows(sort, paper, rows + rows[-1:]), ("order", len(rows)))
            self.check(sort, p, q, self.with_rows(sort, paper, rows[:2] + rows[3:4] + rows[2:3] + rows[4:]), ("order", 3))

    def test_first(self):
        for sort, p, q, paper in self.papers():
            rows = [row for row in self.rows_of(sort, paper) if row[0] != (0, (3,))]
            self.check(sort, p, q, self.with_rows(sort, paper, rows), ("first",))
            self.check(sort, p, q, self.with_rows(sort, paper, ()), ("first",))

    def test_moves(self):
        for sort, p, q, paper in self.papers():
            rows = self.rows_of(sort, paper)
            kinds = set()
            for at in range(len(rows)):
                for member in range(1, len(rows[at])):
                    for change in (-50, -3, -1, 1, 3, 50):
                        old = rows[at][member]
                        new = tuple(1 - x for x in old) if type(old) is tuple else 1 - old if member == 1 else old + change
                        value = self.with_rows(sort, paper, helper.changed_at(rows, at, helper.changed_at(rows[at], member, new)))
                        fault = plain_fault(W, 3, p, q, sort, value)
                        self.check(sort, p, q, value, fault)
                        kinds.add(fault)
                without = self.with_rows(sort, paper, rows[:at] + rows[at + 1:])
                self.check(sort, p, q, without, plain_fault(W, 3, p, q, sort, without))
            self.assertGreater(len(kinds), 5)

    def test_many_matters(self):
        for sort, p, q, paper in self.papers()[1:]:
            for many in (1, 2, paper[0] - 1, paper[0] + 1, 10 ** 6):
                value = (many, paper[1])
                self.check(sort, p, q, value, plain_fault(W, 3, p, q, sort, value))

    def test_counts(self):
        many, rows = lower_paper(W, 3)
        less = tuple((place, call, number, 0) for place, call, number, _ in rows)
        value = (1, less)
        self.check("lower", 7, 3, value, plain_fault(W, 3, 7, 3, "lower", value))
        stands = tuple((place, call, number, count + 10 ** 39) for place, call, number, count in rows)
        self.check("lower", 7, 3, (many, stands), None)

    def test_several_at_once(self):
        for sort, p, q, paper in self.papers():
            rows = self.rows_of(sort, paper)
            late = helper.changed_at(rows, len(rows) - 1, rows[-1][:-1] + (True,))
            self.check(sort, p, q, self.with_rows(sort, paper, late[::-1]), ("form",))
            self.check(sort, p, q, self.with_rows(sort, paper, (rows[1], rows[0])), ("order", 1))
            worse = tuple(row[:2] + tuple(number + 100 * k for number in row[2:]) for k, row in enumerate(rows) if row[0] != (0, (3,)))
            self.check(sort, p, q, self.with_rows(sort, paper, worse), ("first",))

    def test_places_that_are_not_come_to_may_stand(self):
        for menu, b in SMALL[:30]:
            told = least_factor(menu, b)
            paper = rule_paper(menu, b, told[0], told[1])
            inner = [row for row in inner_paper(menu, b) if row[0] not in {row[0] for row in paper}]
            if worst_factor(b) == told:
                both = tuple(sorted(list(paper) + inner))
                self.assertEqual(judge_rule_paper(menu, b, told[0], told[1], both), plain_fault(menu, b, told[0], told[1], "rule", both))
        # With the place (1, (3,)), to which nothing leads, and from which the paper leads on.
        paper = rule_example()
        for number in (-100, 0, 100):
            both = tuple(sorted(paper + (((1, (3,)), (0, 0), number),)))
            self.check("rule", 7, 3, both, plain_fault(W, 3, 7, 3, "rule", both))
        self.check("rule", 7, 3, tuple(sorted(paper + (((1, (3,)), (0, 0), -100),))), None)

    def test_drawn_papers_against_the_words(self):
        source = random.Random(234)
        faults = set()
        for menu, b in SMALL:
            p, q = least_factor(menu, b)
            papers = [("rule", p, q, rule_paper(menu, b, p, q))]
            if (p, q) != (1, 1):
                papers += [("player", 1, 1, player_paper(menu, b, 1, 1)), ("lower", p, q, lower_paper(menu, b))]
            for sort, p, q, paper in papers:
                for _ in range(8):
                    rows = list(self.rows_of(sort, paper))
                    at = source.randrange(len(rows))
                    change = source.randrange(5)
                    if change == 0:
                        del rows[at]
                    elif change == 1:
                        rows[at] = rows[at][:2] + tuple(number + source.randrange(-4, 5) for number in rows[at][2:])
                    elif change == 2:
                        place = source.choice(helper.plain_menu_places(menu, b))
                        rows.insert(at, (place,) + rows[at][1:])
                    elif change == 3:
                        place = source.choice(helper.plain_menu_places(menu, b))
                        rows = sorted([row for row in rows if row[0] != place] + [(place,) + rows[at][1:]])
                    else:
                        other = source.randrange(len(rows))
                        rows[at], rows[other] = rows[other], rows[at]
                    value = self.with_rows(sort, paper, rows)
                    fault = plain_fault(menu, b, p, q, sort, value)
                    self.assertEqual(JUDGES[sort](menu, b, p, q, value), fault, (menu, b, p, q, sort, value))
                    faults.add((sort, fault and fault[0]))
        self.assertEqual(len(faults), 3 * 4)


class Greatness(unittest.TestCase):
    def test_too_great(self):
        wide = tuple((need, 200, need, (1,) * (200 - need)) for need in range(3))
        far = ((10 ** 6 - 1, 10 ** 6, 5, (1,)),)
        begun = time.perf_counter()
        for menu, b in [(W, 150), (helper.plain_menu(2), 13), (helper.plain_menu(16)[:12], 2), (wide, 1), (wide, 10 ** 6), (W, 10 ** 6), (far, 10 ** 6)]:
            calls = [lambda: least_factor(menu, b), lambda: rule_paper(menu, b, 1, 1), lambda: player_paper(menu, b, 1, 1),
                     lambda: lower_paper(menu, b), lambda: inner_paper(menu, b), lambda: judge_rule_paper(menu, b, 1, 1, None),
                     lambda: judge_player_paper(menu, b, 1, 1, [[1]]), lambda: judge_lower_paper(menu, b, 1, 1, "a")]
            for call in calls:
                self.assertRaises(TooGreat, call)
        self.assertLess(time.perf_counter() - begun, 5)
        self.assertEqual([menu_size(W, 149), menu_size(helper.plain_menu(2), 12)], [300, 273])
        self.assertEqual(least_factor(helper.plain_menu(2), 12), (24, 13))

    def check_great(self, menu, b):
        p, q = least_factor(menu, b)
        self.assertIsNone(judge_rule_paper(menu, b, p, q, rule_paper(menu, b, p, q)))
        self.assertIsNone(player_paper(menu, b, p, q))
        for many in (10 ** 6 // p, 3):
            self.assertIsNone(judge_rule_paper(menu, b, p * many + 1, q * many, rule_paper(menu, b, p * many + 1, q * many)))
            if (p, q) != (1, 1):
                self.assertIsNone(rule_paper(menu, b, p * many - 1, q * many))
                paper = player_paper(menu, b, p * many - 1, q * many)
                self.assertIsNone(judge_player_paper(menu, b, p * many - 1, q * many, paper))
                self.assertTrue(all(abs(number) < 10 ** 30 for number in rounds(paper)))
        if (p, q) != (1, 1):
            self.assertIsNone(judge_lower_paper(menu, b, p, q, lower_paper(menu, b)))
        worst = worst_factor(b)
        self.assertIsNone(judge_rule_paper(menu, b, worst[0], worst[1], inner_paper(menu, b)))

    def test_great_menus_in_good_time(self):
        begun = time.perf_counter()
        source = random.Random(235)
        for most, b in [(1, 149), (1, 149), (2, 12), (3, 5), (4, 3), (5, 2), (6, 2), (16, 1)]:
            for many, greatest in [(12, 1000), (12, 3), (4, 30)]:
                menu = helper.random_menu(source, most, min(many, 5 if greatest == 3 and most == 1 else many), greatest)
                self.assertLessEqual(menu_size(menu, b), 300)
                self.check_great(menu, b)
        self.check_great(W, 149)
        self.assertLess(time.perf_counter() - begun, 60)


if __name__ == "__main__":
    unittest.main()
