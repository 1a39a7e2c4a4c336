"""Points 9 and 6: the wait of a call."""

import copy
import random
import unittest

from dripgate.errors import GateError, NoCaller
from dripgate.levels import after_call, after_ticks, full
from dripgate.waiting import wait
from models import HUNDRED_FIGURES, small_levels, small_plans, some_plan, wait_tick_by_tick, wrong_calls


class WaitCase(unittest.TestCase):
    def assert_wait(self, found, expected):
        """Equal, and of the very kind: a whole number that is no True or False, or None."""
        self.assertEqual(found, expected)
        self.assertIs(type(found), type(expected))


class AtOnce(WaitCase):
    plan = ((5, 3), (2, 1), 4, 1)

    def test_the_cup_has_enough(self):
        self.assert_wait(wait(self.plan, ((5, 3), 0), 0, 5), 0)
        self.assert_wait(wait(self.plan, ((5, 3), 4), 1, 1), 0)

    def test_cup_and_bowl_have_just_enough(self):
        self.assert_wait(wait(self.plan, ((2, 3), 4), 0, 6), 0)
        self.assert_wait(wait(self.plan, ((0, 3), 4), 0, 4), 0)

    def test_all_that_cup_and_bowl_hold(self):
        self.assert_wait(wait(self.plan, full(self.plan), 0, 9), 0)
        self.assert_wait(wait(self.plan, full(self.plan), 1, 7), 0)

    def test_a_call_that_costs_nothing(self):
        self.assert_wait(wait(self.plan, ((0, 0), 0), 1, 0), 0)
        self.assert_wait(wait(((0,), (0,), 0, 0), ((0,), 0), 0, 0), 0)

    def test_nothing_ever_falls_and_nothing_needs_to(self):
        self.assert_wait(wait(((5,), (0,), 4, 0), ((5,), 4), 0, 9), 0)


class SomeTicks(WaitCase):
    def test_one_tick_for_the_own_share(self):
        self.assert_wait(wait(((5, 3), (2, 1), 4, 0), ((1, 0), 1), 0, 3), 1)
        self.assert_wait(wait(((5, 3), (2, 1), 4, 0), ((1, 0), 1), 0, 4), 1)
        self.assert_wait(wait(((5, 3), (2, 1), 4, 0), ((1, 0), 1), 0, 5), 2)

    def test_one_tick_for_the_share_of_the_bowl(self):
        self.assert_wait(wait(((5, 3), (0, 0), 4, 3), ((1, 0), 1), 0, 5), 1)

    def test_cup_and_bowl_rise_together(self):
        plan = ((20,), (2,), 20, 3)
        for ticks in range(7):
            self.assert_wait(wait(plan, ((0,), 0), 0, 5 * ticks), ticks)
            self.assert_wait(wait(plan, ((0,), 0), 0, 5 * ticks + 1), ticks + 1)

    def test_the_own_cup_runs_over_into_the_bowl(self):
        plan = ((5,), (2,), 10, 0)
        self.assert_wait(wait(plan, ((0,), 0), 0, 9), 5)
        self.assert_wait(wait(plan, ((0,), 0), 0, 10), 5)
        self.assert_wait(wait(plan, ((0,), 0), 0, 15), 8)

    def test_reached_only_by_what_runs_over_from_another_cup(self):
        plan = ((5, 3), (0, 1), 4, 0)
        for cost in range(1, 5):
            self.assert_wait(wait(plan, ((0, 0), 0), 0, cost), 3 + cost)
        self.assert_wait(wait(plan, ((0, 2), 0), 0, 1), 2)
        self.assert_wait(wait(plan, ((0, 3), 0), 0, 1), 1)
        self.assert_wait(wait(plan, ((2, 3), 1), 0, 5), 2)

    def test_reached_by_what_runs_over_from_several_cups(self):
        plan = ((9, 1, 2, 4), (0, 1, 1, 2), 30, 0)
        levels = ((0, 0, 0, 0), 0)
        # What is in the bowl after each tick: 0, 1, 5, 9, 13 ..
        for cost, ticks in ((1, 2), (2, 3), (5, 3), (6, 4), (9, 4), (10, 5)):
            self.assert_wait(wait(plan, levels, 0, cost), ticks)

    def test_nothing_falls_for_a_while_after_a_first_rise(self):
        # The caller's cup is full at once and the bowl gets nothing before the other cup runs over.
        plan = ((1, 50), (0, 1), 2, 0)
        self.assert_wait(wait(plan, ((1, 0), 0), 0, 2), 51)
        self.assert_wait(wait(plan, ((1, 0), 0), 0, 3), 52)

    def test_great_holds(self):
        plan = ((1200,), (1,), 1200, 0)
        self.assert_wait(wait(plan, ((0,), 0), 0, 1199), 1199)
        self.assert_wait(wait(plan, ((0,), 0), 0, 2400), 2400)
        self.assert_wait(wait(plan, ((1,), 0), 0, 2400), 2399)

    def test_great_holds_behind_another_cup(self):
        plan = ((1200, 1200), (0, 1), 1200, 0)
        self.assert_wait(wait(plan, ((0, 0), 0), 0, 1), 1201)
        self.assert_wait(wait(plan, ((0, 0), 0), 0, 1200), 2400)
        self.assert_wait(wait(plan, ((1200, 0), 0), 0, 2400), 2400)

    def test_twenty_callers(self):
        plan = ((1200,) * 20, (0,) + (1,) * 19, 1200, 0)
        self.assert_wait(wait(plan, ((0,) * 20, 0), 0, 19), 1201)
        self.assert_wait(wait(plan, ((0,) * 20, 0), 0, 20), 1202)
        self.assert_wait(wait(plan, ((0,) * 20, 0), 19, 1200), 1200)
        self.assert_wait(wait(plan, ((0,) * 20, 0), 19, 1220), 1202)

    def test_shares_of_a_hundred_figures(self):
        plan = ((1200, 7), (0, HUNDRED_FIGURES), 1200, 0)
        self.assert_wait(wait(plan, ((0, 0), 0), 0, 1200), 1)
        self.assert_wait(wait(plan, ((0, 0), 0), 1, 1207), 1)
        plan = ((1200, 7), (HUNDRED_FIGURES, 0), 0, HUNDRED_FIGURES)
        self.assert_wait(wait(plan, ((0, 0), 0), 0, 1200), 1)

    def test_beyond_the_bounds(self):
        plan = ((3000,) * 21, (0,) + (1,) * 20, 2000, 0)
        self.assert_wait(wait(plan, ((0,) * 21, 0), 0, 2000), 3100)
        great = 10 ** 120
        plan = ((great, 1), (HUNDRED_FIGURES, 0), great, 0)
        self.assert_wait(wait(plan, ((0, 0), 0), 0, 7 * HUNDRED_FIGURES), 7)
        self.assert_wait(wait(plan, ((0, 0), 0), 0, 7 * HUNDRED_FIGURES + 1), 8)


class NoWait(WaitCase):
    def test_all_shares_are_nought(self):
        plan = ((5, 3), (0, 0), 4, 0)
        self.assert_wait(wait(plan, ((0, 0), 0), 0, 1), None)
        self.assert_wait(wait(plan, ((2, 3), 1), 0, 4), None)
        self.assert_wait(wait(plan, ((2, 3), 1), 0, 3), 0)

    def test_cup_and_bowl_together_cannot_hold_so_much(self):
        plan = ((5, 3), (2, 1), 4, 1)
        self.assert_wait(wait(plan, full(plan), 0, 10), None)
        self.assert_wait(wait(plan, full(plan), 1, 8), None)
        self.assert_wait(wait(plan, ((0, 0), 0), 0, 10), None)
        self.assert_wait(wait(plan, ((0, 0), 0), 0, 9), 3)

    def test_the_cup_could_hold_more_but_gets_nothing(self):
        plan = ((5, 3), (0, 1), 4, 0)
        self.assert_wait(wait(plan, ((2, 0), 0), 0, 6), 7)
        self.assert_wait(wait(plan, ((2, 0), 0), 0, 7), None)

    def test_the_own_share_is_nought_and_the_bowl_holds_nought(self):
        plan = ((5, 3), (0, 9), 0, 9)
        self.assert_wait(wait(plan, ((2, 3), 0), 0, 2), 0)
        self.assert_wait(wait(plan, ((2, 3), 0), 0, 3), None)

    def test_neither_cup_nor_bowl_holds_a_drop(self):
        self.assert_wait(wait(((0, 5), (7, 7), 0, 7), ((0, 0), 0), 0, 1), None)

    def test_a_full_gate_of_great_holds(self):
        plan = ((1200,) * 20, (1,) * 20, 1200, 1)
        self.assert_wait(wait(plan, ((0,) * 20, 0), 7, 2401), None)
        self.assert_wait(wait(plan, full(plan), 7, 2401), None)

    def test_cost_of_a_hundred_figures(self):
        plan = ((1200,), (HUNDRED_FIGURES,), 1200, HUNDRED_FIGURES)
        self.assert_wait(wait(plan, ((0,), 0), 0, HUNDRED_FIGURES), None)
        self.assert_wait(wait(((1200,), (1,), 1200, 0), ((0,), 0), 0, HUNDRED_FIGURES), None)


class AgainstTheDocument(WaitCase):
    def test_every_small_plan(self):
        for plan in small_plans():
            for levels in small_levels(plan):
                for cost in range(6):
                    expected = wait_tick_by_tick(plan, levels, 0, cost)
                    self.assertEqual(wait(plan, levels, 0, cost), expected, (plan, levels, cost))

    def test_some_greater_plans(self):
        dice = random.Random(9)
        for _ in range(400):
            plan = some_plan(dice, dice.randint(1, 6), 40, 3)
            levels = (tuple([dice.randint(0, hold) for hold in plan[0]]), dice.randint(0, plan[2]))
            who = dice.randrange(len(plan[0]))
            cost = dice.randint(0, plan[0][who] + plan[2] + 1)
            expected = wait_tick_by_tick(plan, levels, who, cost)
            self.assert_wait(wait(plan, levels, who, cost), expected)

    def test_the_call_passes_after_its_wait_and_not_a_tick_earlier(self):
        plan = ((40, 30, 7), (1, 2, 0), 50, 0)
        for who in range(3):
            for cost in range(1, plan[0][who] + 50):
                ticks = wait(plan, ((0, 0, 0), 0), who, cost)
                if ticks is None:
                    continue
                reached = after_ticks(plan, ((0, 0, 0), 0), ticks)
                earlier = after_ticks(plan, ((0, 0, 0), 0), ticks - 1)
                self.assertIs(after_call(plan, reached, who, cost)[0], True)
                self.assertIs(after_call(plan, earlier, who, cost)[0], False)


class WrongCaller(WaitCase):
    def test_refused_whatever_it_costs(self):
        for plan, who, cost in wrong_calls():
            for levels in (full(plan), ((0,) * len(plan[0]), 0)):
                with self.assertRaises(NoCaller):
                    wait(plan, levels, who, cost)

    def test_taken_as_the_wider_errors(self):
        for plan, who, cost in wrong_calls():
            for wider in (GateError, ValueError):
                with self.assertRaises(wider):
                    wait(plan, full(plan), who, cost)


class Interface(WaitCase):
    def test_the_names_of_the_arguments(self):
        self.assert_wait(wait(plan=((5,), (2,), 4, 0), levels=((0,), 0), who=0, cost=3), 2)

    def test_nothing_handed_in_is_changed(self):
        plan = ((5, 3), (2, 1), 4, 1)
        levels = ((0, 0), 1)
        before = copy.deepcopy((plan, levels))
        wait(plan, levels, 0, 0)
        wait(plan, levels, 0, 8)
        wait(plan, levels, 1, 100)
        with self.assertRaises(NoCaller):
            wait(plan, levels, 2, 0)
        self.assertEqual((plan, levels), before)

    def test_the_same_question_has_the_same_answer(self):
        plan = ((5, 3), (2, 1), 4, 0)
        for _ in range(3):
            self.assert_wait(wait(plan, ((0, 0), 0), 0, 4), 2)
            self.assert_wait(wait(plan, ((0, 0), 0), 1, 8), None)


if __name__ == "__main__":
    unittest.main()
