"""Points 1 to 6: plans and levels, ticks and calls."""

import copy
import itertools
import unittest

from dripgate.errors import GateError, NoCaller
from dripgate.levels import after_call, after_tick, after_ticks, full
from models import (
    HUNDRED_FIGURES, LevelsCase, call_drop_by_drop, small_levels, small_plans, tick_drop_by_drop, wrong_calls,
)


class Full(LevelsCase):
    def test_one_caller(self):
        self.assert_levels(full(((5,), (2,), 4, 1)), ((5,), 4))

    def test_several_callers(self):
        self.assert_levels(full(((5, 3, 8), (2, 1, 0), 4, 1)), ((5, 3, 8), 4))

    def test_holds_of_nought(self):
        self.assert_levels(full(((0, 3), (2, 1), 0, 7)), ((0, 3), 0))

    def test_twenty_callers_with_great_holds(self):
        holds = tuple(range(1181, 1201))
        self.assert_levels(full((holds, (1,) * 20, 1200, 1)), (holds, 1200))

    def test_beyond_the_bounds(self):
        holds = (1201,) * 21
        self.assert_levels(full((holds, (1,) * 21, 1300, 1)), (holds, 1300))


class Tick(LevelsCase):
    def test_one_caller_gets_its_share_and_the_bowl_its_own(self):
        self.assert_levels(after_tick(((9,), (2,), 9, 3), ((1,), 4)), ((3,), 7))

    def test_each_caller_gets_its_own_share(self):
        plan = ((9, 9, 9), (1, 2, 4), 9, 0)
        self.assert_levels(after_tick(plan, ((0, 1, 2), 3)), ((1, 3, 6), 3))

    def test_cup_filled_to_the_brim_does_not_run_over(self):
        self.assert_levels(after_tick(((5,), (2,), 9, 0), ((3,), 0)), ((5,), 0))

    def test_cup_one_drop_over(self):
        self.assert_levels(after_tick(((5,), (2,), 9, 0), ((4,), 0)), ((5,), 1))

    def test_several_cups_run_over_into_the_bowl(self):
        plan = ((5, 5, 5), (3, 4, 1), 20, 2)
        self.assert_levels(after_tick(plan, ((4, 5, 0), 1)), ((5, 5, 1), 9))

    def test_what_runs_over_does_not_reach_another_cup(self):
        self.assert_levels(after_tick(((1, 9), (6, 0), 2, 0), ((1, 0), 0)), ((1, 0), 2))

    def test_bowl_filled_to_the_brim(self):
        self.assert_levels(after_tick(((5,), (2,), 6, 1), ((4,), 4)), ((5,), 6))

    def test_bowl_runs_over_from_a_cup(self):
        self.assert_levels(after_tick(((5,), (9,), 6, 0), ((4,), 4)), ((5,), 6))

    def test_bowl_runs_over_from_its_own_share_and_not_into_the_cups(self):
        self.assert_levels(after_tick(((5,), (1,), 6, 9), ((0,), 4)), ((1,), 6))

    def test_full_stays_full(self):
        plan = ((5, 0), (2, 3), 6, 1)
        self.assert_levels(after_tick(plan, full(plan)), ((5, 0), 6))

    def test_cup_that_holds_nought_hands_all_on(self):
        self.assert_levels(after_tick(((0, 5), (3, 1), 9, 0), ((0, 0), 1)), ((0, 1), 4))

    def test_share_of_nought(self):
        self.assert_levels(after_tick(((5, 5), (0, 1), 9, 0), ((2, 2), 3)), ((2, 3), 3))

    def test_bowl_that_holds_nought_loses_all(self):
        self.assert_levels(after_tick(((5,), (4,), 0, 7), ((3,), 0)), ((5,), 0))

    def test_all_nought(self):
        self.assert_levels(after_tick(((0,), (0,), 0, 0), ((0,), 0)), ((0,), 0))

    def test_shares_of_a_hundred_figures(self):
        plan = ((1200, 7), (HUNDRED_FIGURES, 0), 1200, 0)
        self.assert_levels(after_tick(plan, ((0, 0), 0)), ((1200, 0), 1200))
        plan = ((1200, 7), (0, 2), 1200, HUNDRED_FIGURES)
        self.assert_levels(after_tick(plan, ((0, 0), 0)), ((0, 2), 1200))

    def test_holds_beyond_the_bounds_keep_every_drop(self):
        great = 10 ** 120
        plan = ((great, 1), (HUNDRED_FIGURES, HUNDRED_FIGURES), great, 1)
        self.assert_levels(after_tick(plan, ((1, 0), 0)), ((10 ** 100, 1), HUNDRED_FIGURES))

    def test_twenty_callers(self):
        plan = ((10,) * 20, tuple(range(20)), 1200, 5)
        expected = tuple([min(10, share) for share in range(20)])
        self.assert_levels(after_tick(plan, ((0,) * 20, 0)), (expected, 45 + 5))

    def test_every_small_plan_drop_by_drop(self):
        for plan in small_plans():
            for levels in small_levels(plan):
                self.assertEqual(after_tick(plan, levels), tick_drop_by_drop(plan, levels), (plan, levels))


class Ticks(LevelsCase):
    def test_nought_ticks_leave_the_levels(self):
        plan = ((5, 3), (2, 1), 4, 1)
        self.assert_levels(after_ticks(plan, ((1, 0), 2), 0), ((1, 0), 2))
        self.assert_levels(after_ticks(plan, full(plan), 0), ((5, 3), 4))

    def test_one_tick_is_a_tick(self):
        self.assert_levels(after_ticks(((5, 3), (2, 1), 9, 1), ((4, 0), 2), 1), ((5, 1), 4))

    def test_several_ticks(self):
        plan = ((5, 3), (2, 1), 20, 1)
        self.assert_levels(after_ticks(plan, ((0, 0), 0), 2), ((4, 2), 2))
        self.assert_levels(after_ticks(plan, ((0, 0), 0), 3), ((5, 3), 4))
        self.assert_levels(after_ticks(plan, ((0, 0), 0), 4), ((5, 3), 8))
        self.assert_levels(after_ticks(plan, ((0, 0), 0), 9), ((5, 3), 20))

    def test_a_hundred_ticks(self):
        plan = ((1200, 1200), (3, 12), 1200, 2)
        self.assert_levels(after_ticks(plan, ((0, 0), 0), 99), ((297, 1188), 198))
        self.assert_levels(after_ticks(plan, ((0, 0), 0), 100), ((300, 1200), 200))
        self.assert_levels(after_ticks(plan, ((0, 0), 0), 101), ((303, 1200), 214))

    def test_a_hundred_ticks_of_twenty_callers(self):
        plan = ((1200,) * 20, tuple(range(20)), 1200, 0)
        cups = tuple([min(1200, 100 * share) for share in range(20)])
        self.assert_levels(after_ticks(plan, ((0,) * 20, 0), 100), (cups, 1200))

    def test_a_hundred_ticks_of_a_hundred_figures(self):
        plan = ((1200,), (HUNDRED_FIGURES,), 1200, HUNDRED_FIGURES)
        self.assert_levels(after_ticks(plan, ((0,), 0), 100), ((1200,), 1200))

    def test_nothing_ever_falls(self):
        plan = ((5, 3), (0, 0), 4, 0)
        self.assert_levels(after_ticks(plan, ((1, 2), 3), 100), ((1, 2), 3))

    def test_far_more_ticks_than_a_hundred(self):
        self.assert_levels(after_ticks(((5000,), (1,), 4, 0), ((0,), 0), 3000), ((3000,), 0))

    def test_as_many_single_ticks(self):
        for plan in small_plans():
            levels = ((0, 0), 0)
            for many in range(6):
                self.assertEqual(after_ticks(plan, ((0, 0), 0), many), levels, (plan, many))
                levels = after_tick(plan, levels)


class Call(LevelsCase):
    plan = ((5, 3, 8), (2, 1, 1), 4, 1)

    def test_the_cup_pays_first(self):
        self.assert_call(after_call(self.plan, ((5, 3, 8), 4), 0, 2), True, ((3, 3, 8), 4))

    def test_the_cup_pays_all_it_has(self):
        self.assert_call(after_call(self.plan, ((5, 3, 8), 4), 1, 3), True, ((5, 0, 8), 4))

    def test_the_bowl_pays_the_rest(self):
        self.assert_call(after_call(self.plan, ((5, 3, 8), 4), 2, 10), True, ((5, 3, 0), 2))

    def test_the_bowl_alone_pays_for_an_empty_cup(self):
        self.assert_call(after_call(self.plan, ((5, 0, 8), 4), 1, 3), True, ((5, 0, 8), 1))

    def test_the_cup_alone_pays_beside_an_empty_bowl(self):
        self.assert_call(after_call(self.plan, ((5, 3, 8), 0), 0, 5), True, ((0, 3, 8), 0))

    def test_just_what_cup_and_bowl_have(self):
        self.assert_call(after_call(self.plan, ((5, 3, 8), 4), 0, 9), True, ((0, 3, 8), 0))
        self.assert_call(after_call(self.plan, ((5, 2, 8), 1), 1, 3), True, ((5, 0, 8), 0))

    def test_one_drop_more_is_refused_and_takes_none(self):
        self.assert_call(after_call(self.plan, ((5, 3, 8), 4), 0, 10), False, ((5, 3, 8), 4))
        self.assert_call(after_call(self.plan, ((5, 2, 8), 1), 1, 4), False, ((5, 2, 8), 1))

    def test_other_cups_pay_nothing(self):
        self.assert_call(after_call(self.plan, ((5, 0, 8), 0), 1, 1), False, ((5, 0, 8), 0))

    def test_first_and_last_caller(self):
        self.assert_call(after_call(self.plan, ((5, 3, 8), 4), 0, 1), True, ((4, 3, 8), 4))
        self.assert_call(after_call(self.plan, ((5, 3, 8), 4), 2, 1), True, ((5, 3, 7), 4))

    def test_one_caller_alone(self):
        plan = ((2,), (1,), 1, 0)
        self.assert_call(after_call(plan, ((2,), 1), 0, 3), True, ((0,), 0))
        self.assert_call(after_call(plan, ((2,), 1), 0, 4), False, ((2,), 1))

    def test_a_call_that_costs_nothing(self):
        self.assert_call(after_call(self.plan, ((5, 3, 8), 4), 1, 0), True, ((5, 3, 8), 4))
        self.assert_call(after_call(self.plan, ((0, 0, 0), 0), 1, 0), True, ((0, 0, 0), 0))
        self.assert_call(after_call(((0,), (0,), 0, 0), ((0,), 0), 0, 0), True, ((0,), 0))

    def test_cup_that_holds_nought(self):
        plan = ((0, 5), (1, 1), 4, 0)
        self.assert_call(after_call(plan, ((0, 5), 4), 0, 4), True, ((0, 5), 0))
        self.assert_call(after_call(plan, ((0, 5), 4), 0, 5), False, ((0, 5), 4))

    def test_bowl_that_holds_nought(self):
        plan = ((5, 5), (1, 1), 0, 9)
        self.assert_call(after_call(plan, ((5, 4), 0), 1, 4), True, ((5, 0), 0))
        self.assert_call(after_call(plan, ((5, 4), 0), 1, 5), False, ((5, 4), 0))

    def test_share_of_nought_does_not_hinder(self):
        self.assert_call(after_call(((5,), (0,), 4, 0), ((5,), 4), 0, 6), True, ((0,), 3))

    def test_shares_pay_nothing_before_a_tick(self):
        self.assert_call(after_call(((5,), (9,), 4, 9), ((1,), 1), 0, 3), False, ((1,), 1))

    def test_great_holds(self):
        plan = ((1200,) * 20, (1,) * 20, 1200, 1)
        cups = (1200,) * 19
        self.assert_call(after_call(plan, full(plan), 19, 2400), True, (cups + (0,), 0))
        self.assert_call(after_call(plan, full(plan), 19, 2401), False, (cups + (1200,), 1200))

    def test_cost_of_a_hundred_figures(self):
        plan = ((1200,), (HUNDRED_FIGURES,), 1200, HUNDRED_FIGURES)
        self.assert_call(after_call(plan, full(plan), 0, HUNDRED_FIGURES), False, ((1200,), 1200))

    def test_great_numbers_beyond_the_bounds_to_the_drop(self):
        plan = ((HUNDRED_FIGURES,), (0,), HUNDRED_FIGURES, 0)
        both = 2 * HUNDRED_FIGURES
        self.assert_call(after_call(plan, full(plan), 0, both - 1), True, ((0,), 1))
        self.assert_call(after_call(plan, full(plan), 0, both), True, ((0,), 0))
        self.assert_call(after_call(plan, full(plan), 0, both + 1), False, full(plan))

    def test_every_small_call_drop_by_drop(self):
        for one, other, bowl in itertools.product(range(4), repeat=3):
            plan = ((3, 3), (1, 1), 3, 1)
            levels = ((one, other), bowl)
            for who, cost in itertools.product(range(2), range(8)):
                answer = after_call(plan, levels, who, cost)
                self.assert_call(answer, *call_drop_by_drop(levels, who, cost))


class WrongCaller(LevelsCase):
    def test_refused_whatever_it_costs(self):
        for plan, who, cost in wrong_calls():
            for levels in (full(plan), ((0,) * len(plan[0]), 0)):
                with self.assertRaises(NoCaller):
                    after_call(plan, levels, who, cost)

    def test_taken_as_the_wider_errors(self):
        for plan, who, cost in wrong_calls():
            for wider in (GateError, ValueError):
                with self.assertRaises(wider):
                    after_call(plan, full(plan), who, cost)

    def test_a_call_that_is_too_dear_is_no_error(self):
        plan = ((5, 3), (2, 1), 4, 1)
        self.assert_call(after_call(plan, full(plan), 1, HUNDRED_FIGURES), False, ((5, 3), 4))


class Together(LevelsCase):
    def test_a_day_at_the_gate(self):
        plan = ((5, 3), (2, 1), 4, 1)
        levels = full(plan)
        passed, levels = after_call(plan, levels, 0, 7)
        self.assert_call((passed, levels), True, ((0, 3), 2))
        passed, levels = after_call(plan, levels, 1, 6)
        self.assert_call((passed, levels), False, ((0, 3), 2))
        levels = after_tick(plan, levels)
        self.assert_levels(levels, ((2, 3), 4))
        passed, levels = after_call(plan, levels, 1, 6)
        self.assert_call((passed, levels), True, ((2, 0), 1))
        self.assert_levels(after_ticks(plan, levels, 2), ((5, 2), 4))

    def test_levels_stay_within_the_holds(self):
        for plan in small_plans():
            levels = full(plan)
            for step in range(12):
                levels = after_call(plan, levels, step % 2, step % 5)[1]
                levels = after_ticks(plan, levels, step % 3)
                for drops, hold in zip(levels[0] + (levels[1],), plan[0] + (plan[2],)):
                    self.assertTrue(0 <= drops <= hold, (plan, levels))

    def test_nothing_handed_in_is_changed(self):
        plan = ((5, 3), (2, 1), 4, 1)
        levels = ((2, 3), 1)
        before = copy.deepcopy((plan, levels))
        full(plan)
        after_tick(plan, levels)
        after_ticks(plan, levels, 3)
        after_call(plan, levels, 0, 3)
        after_call(plan, levels, 0, 9)
        with self.assertRaises(NoCaller):
            after_call(plan, levels, 2, 0)
        self.assertEqual((plan, levels), before)

    def test_the_same_question_has_the_same_answer(self):
        plan = ((5, 3), (2, 1), 4, 1)
        levels = ((2, 0), 1)
        for turn in range(3):
            self.assert_levels(full(plan), ((5, 3), 4))
            self.assert_levels(after_tick(plan, levels), ((4, 1), 2))
            self.assert_levels(after_ticks(plan, levels, 2), ((5, 2), 4))
            self.assert_call(after_call(plan, levels, 0, 3), True, ((0, 0), 0))


if __name__ == "__main__":
    unittest.main()
