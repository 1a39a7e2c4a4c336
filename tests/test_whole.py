"""Points 1, 3, 7 and 8: what holds over the whole program, whatever the deeds."""

import random
import unittest

from dripgate.levels import full
from dripgate.story import answers, let_through, levels_after
from dripgate.waiting import wait
from models import some_days, some_plan


def ticks_in(deeds):
    return sum([deed[1] for deed in deeds if deed[0] == "tick"])


def passed_in(deeds, given):
    """What the calls cost together that were let through."""
    return sum([deed[2] for deed, answer in zip(deeds, given) if answer is True])


def stretches(deeds):
    """The beginning and the end of every stretch of the deeds."""
    for begin in range(len(deeds)):
        for end in range(begin + 1, len(deeds) + 1):
            yield begin, end


def allowance(plan, deeds, who):
    """The most a caller may call for next, so that in no stretch it calls for more than point 8 says."""
    room = plan[0][who]
    for begin in range(len(deeds)):
        called = sum([deed[2] for deed in deeds[begin:] if deed[0] == "call" and deed[1] == who])
        room = min(room, plan[0][who] + plan[1][who] * ticks_in(deeds[begin:]) - called)
    return room


class Bounds(unittest.TestCase):
    def test_no_level_leaves_its_bounds(self):
        for plan, deeds in some_days(1, 300):
            for cups, bowl in levels_after(plan, deeds):
                self.assertEqual(len(cups), len(plan[0]))
                for drops, hold in zip(cups + (bowl,), plan[0] + (plan[2],)):
                    self.assertTrue(0 <= drops <= hold, (plan, deeds))

    def test_no_drop_comes_from_nowhere(self):
        for plan, deeds in some_days(2, 300):
            most = sum(plan[0]) + plan[2]
            given = answers(plan, deeds)
            begun = [full(plan)] + levels_after(plan, deeds)
            for deed, answer, before, after in zip(deeds, given, begun, begun[1:]):
                gone = sum(before[0]) + before[1] - sum(after[0]) - after[1]
                if deed[0] == "tick":
                    falls = (sum(plan[1]) + plan[3]) * deed[1]
                    self.assertTrue(0 <= -gone <= min(falls, most), (plan, deeds))
                else:
                    self.assertEqual(gone, deed[2] if answer else 0, (plan, deeds))


class Stretches(unittest.TestCase):
    def most(self, plan, deeds):
        return sum(plan[0]) + plan[2] + (sum(plan[1]) + plan[3]) * ticks_in(deeds)

    def assert_point_7(self, plan, deeds):
        given = answers(plan, deeds)
        for begin, end in stretches(deeds):
            passed = passed_in(deeds[begin:end], given[begin:end])
            self.assertLessEqual(passed, self.most(plan, deeds[begin:end]), (plan, deeds, begin, end))

    def test_some_days(self):
        for plan, deeds in some_days(7, 200):
            self.assert_point_7(plan, deeds)

    def test_whoever_can_pay_drop_by_drop(self):
        dice = random.Random(70)
        for _ in range(20):
            plan = some_plan(dice, 2, 4, 2)
            grasp = [("call", who, 1) for who in (0, 1, 0, 1)] * 4
            self.assert_point_7(plan, (grasp + [("tick", dice.randint(1, 3))]) * 3 + grasp)

    def test_the_bound_is_reached_and_not_passed(self):
        plan = ((5, 3), (2, 1), 4, 1)
        deeds = [("call", 0, 5), ("call", 1, 7)]
        # Nothing that falls is lost, since all is taken before each tick.
        for _ in range(10):
            deeds += [("tick", 1), ("call", 0, 2), ("call", 1, 2), ("call", 0, 1), ("call", 1, 1)]
        self.assert_point_7(plan, deeds)
        self.assertEqual(passed_in(deeds, answers(plan, deeds)), self.most(plan, deeds))
        self.assertEqual(sum(let_through(plan, deeds)), 12 + 10 * 4)

    def test_what_was_let_through_is_what_passed(self):
        for plan, deeds in some_days(71, 100):
            given = answers(plan, deeds)
            self.assertEqual(sum(let_through(plan, deeds)), passed_in(deeds, given), (plan, deeds))


class Thrift(unittest.TestCase):
    def assert_never_refused(self, plan, deeds, who):
        for deed, answer in zip(deeds, answers(plan, deeds)):
            if deed[0] == "call" and deed[1] == who:
                self.assertIs(answer, True, (plan, deeds))

    def thrifty_day(self, dice, plan, who):
        """The others call for what they like; this one often for all it may."""
        deeds = []
        for _ in range(40):
            turn = dice.randrange(4)
            if turn == 0:
                deeds.append(("tick", dice.randint(0, 3)))
            elif turn == 1:
                room = allowance(plan, deeds, who)
                deeds.append(("call", who, dice.choice((room, dice.randint(0, room)))))
            else:
                others = [other for other in range(-1, len(plan[0]) + 1) if other != who]
                deeds.append(("call", dice.choice(others), dice.randint(0, 12)))
        return deeds

    def test_some_thrifty_days(self):
        dice = random.Random(8)
        for _ in range(200):
            plan = some_plan(dice, dice.randint(1, 4), 12, 4)
            who = dice.randrange(len(plan[0]))
            self.assert_never_refused(plan, self.thrifty_day(dice, plan, who), who)

    def test_whoever_keeps_to_its_share_among_greedy_callers(self):
        plan = ((2, 9, 9), (2, 1, 0), 6, 1)
        greed = [("call", 1, 1), ("call", 2, 1)] * 30
        deeds = greed + [("call", 0, 2)]
        for _ in range(3):
            deeds += greed + [("tick", 1)] + greed + [("call", 0, 2)]
        self.assert_never_refused(plan, deeds, 0)
        self.assertEqual(let_through(plan, deeds)[0], 8)

    def test_all_at_once_after_a_long_rest(self):
        plan = ((1200, 1200), (12, 0), 0, 0)
        deeds = [("call", 0, 1200), ("tick", 100), ("call", 1, 1200), ("call", 0, 1200), ("call", 0, 1)]
        self.assertEqual(answers(plan, deeds), [True, None, True, True, False])

    def test_the_cup_is_spared_for_nobody_else(self):
        # Without a bowl, a drop more than point 8 allows is refused, and not one less.
        plan = ((3, 3), (1, 1), 0, 0)
        for cost, answer in ((1, True), (2, False)):
            deeds = [("call", 0, 3), ("call", 1, 3), ("tick", 1), ("call", 0, cost)]
            self.assertIs(answers(plan, deeds)[3], answer)

    def test_whoever_may_call_need_not_wait(self):
        dice = random.Random(80)
        for _ in range(100):
            plan = some_plan(dice, dice.randint(1, 4), 12, 4)
            who = dice.randrange(len(plan[0]))
            deeds = self.thrifty_day(dice, plan, who)
            room = allowance(plan, deeds, who)
            self.assertEqual(wait(plan, levels_after(plan, deeds)[-1], who, room), 0, (plan, deeds))


if __name__ == "__main__":
    unittest.main()
