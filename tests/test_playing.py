"""Runners and players that go by papers."""

import itertools
import random
import time
import unittest

import helper
from helper import W
from wakedenough.bestrules import inner_paper, judge_player_paper, judge_rule_paper, least_factor, player_paper, rule_paper, worst_factor
from wakedenough.inner import inner_row
from wakedenough.playing import PaperPlayer, PaperRunner, played
from wakedenough.runners import CallRunner, InnerRunner, LazyRunner, RowRunner
from wakedenough.works import least_cost


class Moves:
    """A runner that always moves, as far as it can."""

    def __init__(self):
        self.told = 0

    def look(self, seen):
        need, most = seen[0][:2]
        self.told = need if self.told == most else most
        return self.told


class Answers:
    """A runner that draws what it returns, and keeps what it was shown."""

    def __init__(self, source):
        self.source, self.looks = source, []

    def look(self, seen):
        self.looks.append(seen)
        return self.source.randrange(seen[0][0], seen[0][1] + 1)


def menus():
    source = random.Random(241)
    found = [(W, 2), (W, 3), (W, 7), (helper.plain_menu(1), 4), (helper.plain_menu(2), 3)]
    for k in range(40):
        most, b = [(1, 3), (1, 8), (2, 2), (2, 4), (3, 2)][k % 5]
        found.append((helper.random_menu(source, most, 2 + k % 3, (2, 5, 30)[k % 3]), b))
    return found


MENUS = menus()


def called(menu, calls):
    return tuple(menu[call] for call in calls)


def paid_and_least(menu, b, calls, row):
    slots = called(menu, calls)
    return helper.plain_cost(slots, b, row), least_cost(slots, b)


class Runners(unittest.TestCase):
    def test_tick_by_tick(self):
        source = random.Random(242)
        for menu, b in MENUS:
            p, q = least_factor(menu, b)
            paper = rule_paper(menu, b, p, q)
            told = {row[0]: row[1] for row in paper}
            runner, place = PaperRunner(menu, b, paper), (0, (b,) * menu[0][1])
            for _ in range(40):
                self.assertEqual(runner.here(), place)
                self.assertIs(type(runner.here()), tuple)
                call = source.randrange(len(menu))
                x = runner.look((menu[call], menu[0], None))
                self.assertEqual(x, told[place][call])
                place = helper.plain_turn(menu, b, place, call, x)[2]
            self.assertEqual(runner.here(), place)

    def test_what_it_pays(self):
        source = random.Random(243)
        for menu, b in MENUS:
            p, q = least_factor(menu, b)
            for p, q in [(p, q), (p + 1, q), worst_factor(b)]:
                paper = rule_paper(menu, b, p, q)
                room = max(row[2] for row in paper) - {row[0]: row[2] for row in paper}[(0, (b,) * menu[0][1])]
                for many in (0, 1, 5, 60):
                    calls = [source.randrange(len(menu)) for _ in range(many)]
                    runner = PaperRunner(menu, b, paper)
                    row = [runner.look((menu[call],)) for call in calls]
                    paid, least = paid_and_least(menu, b, calls, row)
                    self.assertLessEqual(q * paid, p * least + room)

    def test_the_inner_paper_is_the_inner_runner(self):
        source = random.Random(244)
        for menu, b in MENUS:
            calls = [source.randrange(len(menu)) for _ in range(60)]
            runner = PaperRunner(menu, b, inner_paper(menu, b))
            row = tuple(runner.look((menu[call],)) for call in calls)
            self.assertEqual(row, inner_row(called(menu, calls), b))

    def test_places_that_are_not_come_to(self):
        paper = tuple(sorted(rule_paper(W, 3, 7, 3) + (((1, (3,)), (0, 0), -100),)))
        self.assertIsNone(judge_rule_paper(W, 3, 7, 3, paper))
        one, other = PaperRunner(W, 3, paper), PaperRunner(W, 3, rule_paper(W, 3, 7, 3))
        for call in (0, 0, 1, 0, 1, 1, 1, 0, 0, 0):
            self.assertEqual(one.look((W[call],)), other.look((W[call],)))

    def test_a_great_menu(self):
        # Whoever plays by a paper is never too great: just these places count.
        menu, b = ((200, 200, 7, ()),), 10 ** 6
        first, late = (0, (b,) * 200), (200, (0,) * 200)
        runner = PaperRunner(menu, b, ((first, (200,), 0), (late, (200,), 0)))
        self.assertEqual([runner.look((menu[0],)) for _ in range(5)], [200] * 5)
        self.assertEqual(runner.here(), late)


class Players(unittest.TestCase):
    def test_tick_by_tick(self):
        source = random.Random(245)
        tried = 0
        for menu, b in MENUS:
            if least_factor(menu, b) == (1, 1):
                continue
            tried += 1
            paper = player_paper(menu, b, 1, 1)
            told = {row[0]: row[1] for row in paper[1]}
            player, place = PaperPlayer(menu, b, paper), (0, (b,) * menu[0][1])
            for _ in range(40):
                self.assertEqual(player.here(), place)
                self.assertEqual([player.next_call() for _ in range(3)], [told[place]] * 3)
                self.assertEqual(player.here(), place)
                x = source.choice(list(helper.numbers_of(menu[told[place]])))
                self.assertIsNone(player.answer(x))
                place = helper.plain_turn(menu, b, place, told[place], x)[2]
            self.assertEqual(player.here(), place)
        self.assertGreater(tried, 15)

    def test_whatever_is_answered(self):
        source = random.Random(246)
        for menu, b in MENUS:
            told = least_factor(menu, b)
            if told == (1, 1):
                continue
            for p, q in [(1, 1), (told[0] * 100 - 1, told[1] * 100)]:
                paper = player_paper(menu, b, p, q)
                numbers = {row[0]: row[2] for row in paper[1]}
                low = min(numbers.values()) - numbers[(0, (b,) * menu[0][1])]
                runners = [LazyRunner(b), InnerRunner(b), Moves(), Answers(source), CallRunner(lambda seen: seen[0][0]), CallRunner(lambda seen: seen[0][1]),
                           PaperRunner(menu, b, inner_paper(menu, b)), PaperRunner(menu, b, rule_paper(menu, b, told[0], told[1]))]
                for runner in runners:
                    n = source.choice((1, 2, 7, 50))
                    calls, row = played(menu, b, paper, runner, n)
                    paid, least = paid_and_least(menu, b, calls, row)
                    self.assertGreaterEqual(paper[0] * (q * paid - p * least), n + low)

    def test_all_answers(self):
        paper = player_paper(W, 2, 3, 2)
        self.assertIsNone(judge_player_paper(W, 2, 3, 2, paper))
        numbers = {row[0]: row[2] for row in paper[1]}
        low = min(numbers.values()) - numbers[(0, (2,))]
        for n in range(9):
            for answers in itertools.product((0, 1), repeat=n):
                calls, row = played(W, 2, paper, RowRunner(answers), n)
                self.assertEqual(row, answers)
                paid, least = paid_and_least(W, 2, calls, row)
                self.assertGreaterEqual(paper[0] * (2 * paid - 3 * least), n + low)


class Played(unittest.TestCase):
    def test_against_turns(self):
        source = random.Random(247)
        for menu, b in MENUS:
            if least_factor(menu, b) == (1, 1):
                continue
            paper = player_paper(menu, b, 1, 1)
            told = {row[0]: row[1] for row in paper[1]}
            runner = Answers(source)
            calls, row = played(menu, b, paper, runner, 30)
            self.assertEqual([type(calls), type(row), len(calls), len(row)], [tuple, tuple, 30, 30])
            place = (0, (b,) * menu[0][1])
            for call, x, seen in zip(calls, row, runner.looks):
                self.assertEqual(call, told[place])
                self.assertEqual(seen, (menu[call],))
                place = helper.plain_turn(menu, b, place, call, x)[2]

    def test_no_ticks(self):
        runner = Answers(random.Random(1))
        self.assertEqual(played(W, 3, player_paper(W, 3, 2, 1), runner, 0), ((), ()))
        self.assertEqual(runner.looks, [])

    def test_w_is_the_player_of_slots(self):
        # S8.7: by S6 the player of W is that of slots, which calls what costs 1 where the runner stands.
        for b in (2, 3, 5):
            paper = player_paper(W, b, 1, 1)
            calls, row = played(W, b, paper, Moves(), 30)
            self.assertEqual(calls, tuple(before for before in (0,) + row[:-1]))

    def test_the_runner_goes_on(self):
        runner = InnerRunner(3)
        paper = player_paper(W, 3, 2, 1)
        one = played(W, 3, paper, runner, 4)
        self.assertEqual(one, played(W, 3, paper, InnerRunner(3), 4))
        self.assertEqual(runner.look((W[0],)), inner_row(called(W, one[0]) + (W[0],), 3)[-1])

    def test_in_good_time(self):
        begun = time.perf_counter()
        p, q = worst_factor(149)
        paper = player_paper(W, 149, p * 100 - 1, q * 100)
        for runner in (InnerRunner(149), LazyRunner(149), Moves(), PaperRunner(W, 149, rule_paper(W, 149, p, q))):
            calls, row = played(W, 149, paper, runner, 2000)
            self.assertEqual(len(calls), 2000)
        self.assertLess(time.perf_counter() - begun, 20)


if __name__ == "__main__":
    unittest.main()
