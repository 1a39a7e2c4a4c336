"""Point 10, with 2 to 6: a gate, and deeds done at it one after the other."""

import copy
import unittest

from dripgate.errors import GateError, NoCaller
from dripgate.story import Gate, answers, let_through, levels_after
from models import HUNDRED_FIGURES, LevelsCase, some_days, story_drop_by_drop, wrong_calls

PLAN = ((5, 3), (2, 1), 4, 1)

# Calls let through and refused, of callers and of numbers that none has, and ticks.
DAY = [
    ("call", 0, 7),
    ("call", 1, 6),
    ("tick", 1),
    ("call", -1, 1),
    ("call", 1, 6),
    ("call", 2, 0),
    ("tick", 0),
    ("call", 1, 0),
    ("tick", 2),
    ("call", 0, 9),
    ("call", 0, 1),
]
DAY_ANSWERS = [True, False, None, None, True, None, None, True, None, True, False]
DAY_LEVELS = [
    ((0, 3), 2),
    ((0, 3), 2),
    ((2, 3), 4),
    ((2, 3), 4),
    ((2, 0), 1),
    ((2, 0), 1),
    ((2, 0), 1),
    ((2, 0), 1),
    ((5, 2), 4),
    ((0, 2), 0),
    ((0, 2), 0),
]
DAY_TOTALS = [16, 6]


class StoryCase(LevelsCase):
    def assert_answers(self, plan, deeds, expected):
        """Equal, a list, and each of True, False and None itself."""
        found = answers(plan, deeds)
        self.assertIs(type(found), list)
        self.assertEqual(len(found), len(expected))
        for answer, awaited in zip(found, expected):
            self.assertIs(answer, awaited)

    def assert_levels_after(self, plan, deeds, expected):
        found = levels_after(plan, deeds)
        self.assertIs(type(found), list)
        self.assertEqual(len(found), len(expected))
        for levels, awaited in zip(found, expected):
            self.assert_levels(levels, awaited)

    def assert_let_through(self, plan, deeds, expected):
        found = let_through(plan, deeds)
        self.assertIs(type(found), list)
        self.assertEqual(found, expected)
        for total in found:
            self.assertIs(type(total), int)

    def assert_story(self, plan, deeds, told):
        self.assert_answers(plan, deeds, told[0])
        self.assert_levels_after(plan, deeds, told[1])
        self.assert_let_through(plan, deeds, told[2])


class NewGate(StoryCase):
    def test_fields_from_when_it_is_made(self):
        gate = Gate(PLAN)
        self.assertEqual(gate.plan, PLAN)
        self.assert_levels(gate.levels, ((5, 3), 4))

    def test_one_caller(self):
        self.assert_levels(Gate(((7,), (1,), 0, 2)).levels, ((7,), 0))

    def test_twenty_callers_of_great_holds(self):
        plan = ((1200,) * 20, (1,) * 20, 1200, 1)
        self.assert_levels(Gate(plan).levels, ((1200,) * 20, 1200))

    def test_the_name_of_the_argument(self):
        self.assertEqual(Gate(plan=PLAN).plan, PLAN)


class GateTick(StoryCase):
    def empty_gate(self, plan):
        gate = Gate(plan)
        gate.levels = ((0,) * len(plan[0]), 0)
        return gate

    def test_nought_ticks(self):
        gate = Gate(PLAN)
        gate.call(0, 7)
        gate.tick(0)
        self.assert_levels(gate.levels, ((0, 3), 2))

    def test_one_tick_and_several(self):
        gate = self.empty_gate(((5, 3), (2, 1), 20, 1))
        gate.tick(1)
        self.assert_levels(gate.levels, ((2, 1), 1))
        gate.tick(3)
        self.assert_levels(gate.levels, ((5, 3), 8))

    def test_a_full_gate_stays_full(self):
        gate = Gate(PLAN)
        gate.tick(3)
        self.assert_levels(gate.levels, ((5, 3), 4))

    def test_a_hundred_ticks(self):
        gate = self.empty_gate(((1200, 1200), (3, 12), 1200, 2))
        gate.tick(100)
        self.assert_levels(gate.levels, ((300, 1200), 200))

    def test_the_name_of_the_argument(self):
        gate = self.empty_gate(PLAN)
        gate.tick(many=1)
        self.assert_levels(gate.levels, ((2, 1), 1))


class GateCall(StoryCase):
    def test_let_through(self):
        gate = Gate(PLAN)
        self.assertIs(gate.call(0, 2), True)
        self.assert_levels(gate.levels, ((3, 3), 4))
        self.assertIs(gate.call(0, 5), True)
        self.assert_levels(gate.levels, ((0, 3), 2))
        self.assertIs(gate.call(1, 5), True)
        self.assert_levels(gate.levels, ((0, 0), 0))

    def test_refused_and_nothing_taken(self):
        gate = Gate(PLAN)
        self.assertIs(gate.call(0, 10), False)
        self.assert_levels(gate.levels, ((5, 3), 4))
        self.assertIs(gate.call(1, HUNDRED_FIGURES), False)
        self.assert_levels(gate.levels, ((5, 3), 4))

    def test_a_call_that_costs_nothing(self):
        gate = Gate(((0,), (0,), 0, 0))
        self.assertIs(gate.call(0, 0), True)
        self.assert_levels(gate.levels, ((0,), 0))

    def test_refused_and_let_through_after_a_tick(self):
        gate = Gate(PLAN)
        self.assertIs(gate.call(1, 7), True)
        self.assertIs(gate.call(1, 2), False)
        gate.tick(1)
        # The full cup of the other caller runs over: two drops of its share, and one of the bowl's own.
        self.assert_levels(gate.levels, ((5, 1), 3))
        self.assertIs(gate.call(1, 4), True)
        self.assert_levels(gate.levels, ((5, 0), 0))

    def test_great_holds(self):
        gate = Gate(((1200,) * 20, (1,) * 20, 1200, 1))
        self.assertIs(gate.call(19, 2401), False)
        self.assertIs(gate.call(19, 2400), True)
        self.assert_levels(gate.levels, ((1200,) * 19 + (0,), 0))

    def test_the_names_of_the_arguments(self):
        gate = Gate(PLAN)
        self.assertIs(gate.call(who=1, cost=2), True)
        self.assert_levels(gate.levels, ((5, 1), 4))

    def test_a_number_that_no_caller_has(self):
        for plan, who, cost in wrong_calls():
            gate = Gate(plan)
            before = gate.levels
            for wider in (NoCaller, GateError, ValueError):
                with self.assertRaises(wider):
                    gate.call(who, cost)
            self.assert_levels(gate.levels, before)

    def test_the_gate_goes_on_after_a_wrong_call(self):
        gate = Gate(PLAN)
        gate.call(0, 7)
        with self.assertRaises(NoCaller):
            gate.call(-1, 1)
        self.assert_levels(gate.levels, ((0, 3), 2))
        self.assertIs(gate.call(1, 5), True)
        self.assert_levels(gate.levels, ((0, 0), 0))


class SeveralGates(StoryCase):
    def test_two_gates_of_one_plan_have_nothing_in_common(self):
        one = Gate(PLAN)
        other = Gate(PLAN)
        one.call(0, 9)
        self.assert_levels(one.levels, ((0, 3), 0))
        self.assert_levels(other.levels, ((5, 3), 4))
        other.call(1, 7)
        one.tick(1)
        self.assert_levels(one.levels, ((2, 3), 2))
        self.assert_levels(other.levels, ((5, 0), 0))
        self.assert_levels(Gate(PLAN).levels, ((5, 3), 4))

    def test_gates_of_two_plans(self):
        one = Gate(PLAN)
        other = Gate(((9,), (4,), 2, 0))
        one.call(0, 9)
        other.call(0, 11)
        one.tick(1)
        other.tick(1)
        self.assertEqual((one.plan, other.plan), (PLAN, ((9,), (4,), 2, 0)))
        self.assert_levels(one.levels, ((2, 3), 2))
        self.assert_levels(other.levels, ((4,), 0))

    def test_the_plan_of_a_gate_stays(self):
        gate = Gate(PLAN)
        gate.call(0, 9)
        gate.tick(2)
        self.assertEqual(gate.plan, ((5, 3), (2, 1), 4, 1))


class Stories(StoryCase):
    def test_a_day(self):
        self.assert_story(PLAN, DAY, (DAY_ANSWERS, DAY_LEVELS, DAY_TOTALS))

    def test_every_beginning_of_the_day(self):
        for many in range(len(DAY) + 1):
            self.assert_answers(PLAN, DAY[:many], DAY_ANSWERS[:many])
            self.assert_levels_after(PLAN, DAY[:many], DAY_LEVELS[:many])

    def test_no_deeds(self):
        self.assert_story(PLAN, [], ([], [], [0, 0]))
        self.assert_story(((5,), (2,), 4, 1), [], ([], [], [0]))
        self.assert_story(((5,) * 20, (2,) * 20, 4, 1), [], ([], [], [0] * 20))

    def test_ticks_alone(self):
        deeds = [("tick", 0), ("tick", 1), ("tick", 100)]
        self.assert_story(PLAN, deeds, ([None] * 3, [((5, 3), 4)] * 3, [0, 0]))

    def test_one_caller(self):
        deeds = [("call", 0, 4), ("call", 0, 3), ("call", 0, 2), ("tick", 2), ("call", 0, 2), ("call", 0, 1)]
        reached = [((1,), 2), ((0,), 0), ((0,), 0), ((2,), 0), ((0,), 0), ((0,), 0)]
        self.assert_story(((5,), (1,), 2, 0), deeds, ([True, True, False, None, True, False], reached, [9]))

    def test_a_caller_that_never_calls(self):
        deeds = [("call", 0, 1), ("call", 2, 3), ("tick", 1), ("call", 2, 1)]
        self.assert_let_through(((5, 3, 8), (2, 1, 1), 4, 1), deeds, [1, 0, 4])

    def test_a_caller_that_is_always_refused(self):
        deeds = [("call", 0, 10), ("call", 1, 2), ("call", 0, HUNDRED_FIGURES)]
        reached = [((5, 3), 4), ((5, 1), 4), ((5, 1), 4)]
        self.assert_story(PLAN, deeds, ([False, True, False], reached, [0, 2]))

    def test_calls_that_cost_nothing(self):
        plan = ((0, 0), (0, 0), 0, 0)
        deeds = [("call", 0, 0), ("call", 1, 0), ("tick", 5), ("call", 1, 0), ("call", 1, 1)]
        self.assert_story(plan, deeds, ([True, True, None, True, False], [((0, 0), 0)] * 5, [0, 0]))

    def test_a_hundred_ticks_in_one_deed(self):
        plan = ((1200, 1200), (3, 12), 1200, 2)
        deeds = [("call", 0, 2400), ("call", 1, 1200), ("tick", 100), ("call", 0, 501), ("call", 0, 500)]
        reached = [((0, 1200), 0), ((0, 0), 0), ((300, 1200), 200), ((300, 1200), 200), ((0, 1200), 0)]
        self.assert_story(plan, deeds, ([True, True, None, False, True], reached, [2900, 1200]))

    def test_a_hundred_deeds(self):
        plan = ((1200,), (3,), 1200, 0)
        deeds = [("tick", 1), ("call", 0, 51)] * 50
        # 2400 drops, and 3 with each tick but the first, when the gate is full: enough for all calls but the last.
        told = story_drop_by_drop(plan, deeds)
        self.assertEqual(told[2], [49 * 51])
        self.assert_story(plan, deeds, told)

    def test_a_hundred_deeds_of_a_hundred_ticks(self):
        plan = ((1200,) * 20, tuple(range(20)), 1200, 1)
        deeds = [("call", 0, 2400)] + [("tick", 100)] * 98 + [("call", 0, 1201)]
        given = [True] + [None] * 98 + [False]
        self.assert_answers(plan, deeds, given)
        self.assert_let_through(plan, deeds, [2400] + [0] * 19)
        reached = levels_after(plan, deeds)
        self.assertEqual(len(reached), 100)
        self.assert_levels(reached[0], ((0,) + (1200,) * 19, 0))
        # Nothing falls into the cup of the first; all else runs into the bowl.
        self.assert_levels(reached[1], ((0,) + (1200,) * 19, 1200))
        self.assert_levels(reached[99], ((0,) + (1200,) * 19, 1200))

    def test_somewhat_more_deeds_and_ticks(self):
        plan = ((3000,) * 21, (1,) * 21, 2500, 0)
        deeds = [("call", 20, 5500)] + [("tick", 101)] * 3 + [("call", 20, 5500), ("call", 20, 2803)]
        deeds += [("tick", 1)] * 200
        given = [True, None, None, None, False, True] + [None] * 200
        self.assert_answers(plan, deeds, given)
        self.assert_let_through(plan, deeds, [0] * 20 + [8303])
        # 303 drops in the last one's cup; the twenty others have filled the bowl.
        self.assert_levels(levels_after(plan, deeds)[3], ((3000,) * 20 + (303,), 2500))
        self.assert_levels(levels_after(plan, deeds)[-1], ((3000,) * 20 + (200,), 2500))

    def test_twenty_callers(self):
        plan = (tuple(range(20)), (1,) * 20, 5, 0)
        deeds = [("call", who, who) for who in range(20)]
        reached = [((0,) * (who + 1) + tuple(range(who + 1, 20)), 5) for who in range(20)]
        self.assert_story(plan, deeds, ([True] * 20, reached, list(range(20))))

    def test_numbers_of_a_hundred_figures(self):
        plan = ((1200, 0), (HUNDRED_FIGURES, HUNDRED_FIGURES), 1200, HUNDRED_FIGURES)
        deeds = [("call", 0, HUNDRED_FIGURES), ("call", 1, 1200), ("call", 0, 1200), ("tick", 1), ("call", 0, 2400)]
        reached = [((1200, 0), 1200), ((1200, 0), 0), ((0, 0), 0), ((1200, 0), 1200), ((0, 0), 0)]
        self.assert_story(plan, deeds, ([False, True, True, None, True], reached, [3600, 1200]))

    def test_some_days_drop_by_drop(self):
        for plan, deeds in some_days(10, 300):
            with self.subTest(plan=plan, deeds=deeds):
                self.assert_story(plan, deeds, story_drop_by_drop(plan, deeds))

    def test_the_same_as_at_a_gate(self):
        for plan, deeds in some_days(11, 100):
            gate = Gate(plan)
            given, reached = [], []
            for deed in deeds:
                if deed[0] == "tick":
                    gate.tick(deed[1])
                    given.append(None)
                elif deed[1] in range(len(plan[0])):
                    given.append(gate.call(deed[1], deed[2]))
                else:
                    self.assertRaises(NoCaller, gate.call, deed[1], deed[2])
                    given.append(None)
                reached.append(gate.levels)
            self.assert_answers(plan, deeds, given)
            self.assert_levels_after(plan, deeds, reached)


class WrongCallers(StoryCase):
    def test_alone(self):
        for plan, who, cost in wrong_calls():
            nought = [0] * len(plan[0])
            self.assert_story(plan, [("call", who, cost)], ([None], [(plan[0], plan[2])], nought))

    def test_among_other_deeds(self):
        for who in (-1, -2, -3, 2, 3, 1000, -HUNDRED_FIGURES, HUNDRED_FIGURES):
            for cost in (0, 1, HUNDRED_FIGURES):
                deeds = [("call", 1, 5), ("call", who, cost), ("tick", 1), ("call", who, cost), ("call", 1, 5)]
                reached = [((5, 0), 2), ((5, 0), 2), ((5, 1), 4), ((5, 1), 4), ((5, 0), 0)]
                self.assert_story(PLAN, deeds, ([True, None, None, None, True], reached, [0, 10]))


class HandedIn(StoryCase):
    def test_nothing_handed_in_is_changed(self):
        plan, deeds = copy.deepcopy((PLAN, DAY))
        for told in (answers, levels_after, let_through):
            told(plan, deeds)
            self.assertEqual((plan, deeds), (PLAN, DAY))
            self.assertIs(type(deeds), list)

    def test_each_time_a_new_gate(self):
        for _ in range(3):
            self.assert_story(PLAN, DAY, (DAY_ANSWERS, DAY_LEVELS, DAY_TOTALS))

    def test_what_was_given_back_may_be_changed(self):
        for told, expected in ((answers, DAY_ANSWERS), (levels_after, DAY_LEVELS), (let_through, DAY_TOTALS)):
            told(PLAN, DAY).clear()
            told(PLAN, DAY)[0] = "else"
            self.assertEqual(told(PLAN, DAY), expected)

    def test_the_names_of_the_arguments(self):
        self.assertEqual(answers(plan=PLAN, deeds=DAY), DAY_ANSWERS)
        self.assertEqual(levels_after(plan=PLAN, deeds=DAY), DAY_LEVELS)
        self.assertEqual(let_through(plan=PLAN, deeds=DAY), DAY_TOTALS)


if __name__ == "__main__":
    unittest.main()
