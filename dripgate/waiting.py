"""How many ticks a call would have to wait."""

from dripgate.levels import after_call, after_ticks


def passes_after(plan, levels, who, cost, many):
    """Whether the call would be let through after so many ticks without another call."""
    return after_call(plan, after_ticks(plan, levels, many), who, cost)[0]


def wait(plan, levels, who, cost):
    """The least number of ticks after which the call would be let through, None where it never would be."""
    # A cup with a share is full after as many ticks as it holds drops. From then on all that falls runs into the
    # bowl, which is full as many ticks later as it holds drops, if anything falls at all. So nothing changes later.
    settled = max(plan[0]) + plan[2]
    if not passes_after(plan, levels, who, cost, settled):
        return None
    # Ticks take no drops away: a call that would be let through after some ticks would be after more, too.
    least = 0
    most = settled
    while least < most:
        middle = (least + most) // 2
        if passes_after(plan, levels, who, cost, middle):
            most = middle
        else:
            least = middle + 1
    return least
