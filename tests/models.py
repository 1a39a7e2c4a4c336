"""What several tests need: the document told in another way than the program tells it."""

import itertools
import random
import unittest

HUNDRED_FIGURES = 10 ** 100 - 1


def small_plans():
    """Every plan of two callers with tiny numbers."""
    few = range(3)
    for one, other, share, other_share, bowl, bowl_share in itertools.product(few, repeat=6):
        yield ((one, other), (share, other_share), bowl, bowl_share)


def small_levels(plan):
    """Every levels of such a plan."""
    holds = plan[0]
    for one, other, bowl in itertools.product(range(holds[0] + 1), range(holds[1] + 1), range(plan[2] + 1)):
        yield ((one, other), bowl)


def tick_drop_by_drop(plan, levels):
    """One tick, told in another way than the program's: each drop falls by itself."""
    holds, shares, bowl_hold, bowl_share = plan
    cups, bowl = list(levels[0]), levels[1]
    for who, share in enumerate(shares):
        for _ in range(share):
            if cups[who] < holds[who]:
                cups[who] += 1
            elif bowl < bowl_hold:
                bowl += 1
    for _ in range(bowl_share):
        if bowl < bowl_hold:
            bowl += 1
    return (tuple(cups), bowl)


def call_drop_by_drop(levels, who, cost):
    """One call, told in another way than the program's: each drop is paid by itself."""
    cups, bowl = list(levels[0]), levels[1]
    for _ in range(cost):
        if cups[who] > 0:
            cups[who] -= 1
        elif bowl > 0:
            bowl -= 1
        else:
            return (False, levels)
    return (True, (tuple(cups), bowl))


def wait_tick_by_tick(plan, levels, who, cost):
    """The wait, told in another way than the program's: one tick after the other till the call passes."""
    waited = 0
    while not call_drop_by_drop(levels, who, cost)[0]:
        later = tick_drop_by_drop(plan, levels)
        if later == levels:
            return None
        levels = later
        waited += 1
    return waited


def story_drop_by_drop(plan, deeds):
    """The answers to the deeds, the levels after each, and what was let through for each caller."""
    levels = (plan[0], plan[2])
    given, reached, totals = [], [], [0] * len(plan[0])
    for deed in deeds:
        answer = None
        if deed[0] == "tick":
            for _ in range(deed[1]):
                levels = tick_drop_by_drop(plan, levels)
        elif deed[1] in range(len(plan[0])):
            answer, levels = call_drop_by_drop(levels, deed[1], deed[2])
            if answer:
                totals[deed[1]] += deed[2]
        given.append(answer)
        reached.append(levels)
    return given, reached, totals


def some_plan(dice, callers, greatest_hold, greatest_share):
    """A plan whose shares are often nought or small beside the holds."""
    holds = tuple([dice.randint(0, greatest_hold) for _ in range(callers)])
    shares = tuple([dice.choice((0, 1, dice.randint(0, greatest_share))) for _ in range(callers)])
    return (holds, shares, dice.randint(0, greatest_hold), dice.choice((0, 0, dice.randint(0, greatest_share))))


def some_deeds(dice, plan, many, greatest_cost):
    """Deeds of both kinds, some of them calls of numbers that no caller has."""
    deeds = []
    for _ in range(many):
        if dice.random() < 0.35:
            deeds.append(("tick", dice.randint(0, 4)))
        else:
            deeds.append(("call", dice.randint(-2, len(plan[0]) + 1), dice.randint(0, greatest_cost)))
    return deeds


def some_days(seed, count):
    """Plans with deeds at them, the same ones at every run."""
    dice = random.Random(seed)
    for _ in range(count):
        plan = some_plan(dice, dice.randint(1, 4), 12, 5)
        yield plan, some_deeds(dice, plan, dice.randint(0, 30), 10)


def wrong_calls():
    """Plans, with a number that no caller of it has, and a cost: nought, one that a caller could pay, and greater."""
    for plan in (((5,), (2,), 4, 1), ((5, 3, 8), (2, 1, 1), 4, 1), ((0,) * 20, (0,) * 20, 0, 0)):
        count = len(plan[0])
        below = (-1, -count, -count - 1, -HUNDRED_FIGURES, -10 ** 5000)
        beyond = (count, count + 1, 1000, HUNDRED_FIGURES, 10 ** 5000)
        for who, cost in itertools.product(below + beyond, (0, 1, 1000, HUNDRED_FIGURES)):
            yield plan, who, cost


class LevelsCase(unittest.TestCase):
    def assert_levels(self, levels, expected):
        """Equal, and of the very kinds that the interface tells."""
        self.assertIs(type(levels), tuple)
        self.assertEqual(len(levels), 2)
        self.assertIs(type(levels[0]), tuple)
        for drops in levels[0] + (levels[1],):
            self.assertIs(type(drops), int)
        self.assertEqual(levels, expected)

    def assert_call(self, answer, passed, expected):
        self.assertIs(type(answer), tuple)
        self.assertEqual(len(answer), 2)
        self.assertIs(answer[0], passed)
        self.assert_levels(answer[1], expected)
