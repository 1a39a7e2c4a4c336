"""Deeds that are done at a gate, one after the other.

A deed is ("tick", many) or ("call", who, cost).
"""

from dripgate.errors import NoCaller
from dripgate.levels import after_call, after_ticks, full


class Gate:
    """A gate, which begins with all cups and the bowl full."""

    def __init__(self, plan):
        self.plan = plan
        self.levels = full(plan)

    def tick(self, many):
        """Lets so many ticks pass."""
        self.levels = after_ticks(self.plan, self.levels, many)

    def call(self, who, cost):
        """True where the call is let through, else False."""
        outcome = after_call(self.plan, self.levels, who, cost)
        self.levels = outcome[1]
        return outcome[0]


def answer_to(gate, deed):
    """Does the deed at the gate; the answer to it."""
    if deed[0] == "tick":
        gate.tick(deed[1])
        return None
    try:
        return gate.call(deed[1], deed[2])
    except NoCaller:
        return None


def answers(plan, deeds):
    """A list of the answers to the deeds at a new gate."""
    gate = Gate(plan)
    given = []
    for deed in deeds:
        given.append(answer_to(gate, deed))
    return given


def levels_after(plan, deeds):
    """A list with the levels after each deed at a new gate."""
    gate = Gate(plan)
    reached = []
    for deed in deeds:
        answer_to(gate, deed)
        reached.append(gate.levels)
    return reached


def let_through(plan, deeds):
    """A list with, for each caller, what its calls cost together that were let through at a new gate."""
    gate = Gate(plan)
    totals = [0 for hold in plan[0]]
    for deed in deeds:
        if answer_to(gate, deed) is True:
            totals[deed[1]] += deed[2]
    return totals
