"""The drops in the cups and in the bowl, and what ticks and calls make of them.

A plan is (holds, shares, bowl_hold, bowl_share); its levels are (cups, bowl).
"""

from dripgate.errors import NoCaller


def full(plan):
    """The levels with which a gate begins."""
    return (plan[0], plan[2])


def after_tick(plan, levels):
    """The levels after one tick."""
    return after_ticks(plan, levels, 1)


def after_ticks(plan, levels, many):
    """The levels after so many ticks, nought or more."""
    holds = plan[0]
    shares = plan[1]
    bowl_hold = plan[2]
    bowl_share = plan[3]
    # Ticks only add drops, so cutting off once, at the end, leaves what cutting off with every tick would.
    offered = [cup + many * share for cup, share in zip(levels[0], shares)]
    cups = tuple([min(hold, drops) for hold, drops in zip(holds, offered)])
    run_over = sum(offered) - sum(cups)
    return (cups, min(bowl_hold, levels[1] + run_over + many * bowl_share))


def after_call(plan, levels, who, cost):
    """Whether the call is let through, and the levels after it."""
    # Python would count a number below nought from the end, and so let the last caller pay.
    if who < 0 or who >= len(plan[0]):
        # The number stays out of the words: Python refuses to write out a very long one, with another error.
        raise NoCaller("no caller has this number")
    cups = levels[0]
    bowl = levels[1]
    if cups[who] + bowl < cost:
        return (False, levels)
    from_cup = min(cups[who], cost)
    left = cups[:who] + (cups[who] - from_cup,) + cups[who + 1:]
    return (True, (left, bowl - (cost - from_cup)))
