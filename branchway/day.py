"""A day: deeds done one by one on a growing tree of states, and their answers."""

from branchway.errors import BadState
from branchway.tree import nearest, way


class Day:
    def __init__(self):
        self.parents = [None]
        # One dict for each state, so that a step on one branch can't reach another.
        self.amounts = [{}]
        self.hand = 0

    def make_step(self, name, amount):
        held = dict(self.amounts[self.hand])
        held[name] = held.get(name, 0) + amount
        state = len(self.parents)
        self.parents.append(self.hand)
        self.amounts.append(held)
        self.hand = state
        return state

    def go_to(self, state):
        try:
            gone = way(self.parents, self.hand, state)
        except BadState:
            return None
        self.hand = state
        return gone

    def value_of(self, name):
        return self.amounts[self.hand].get(name, 0)

    def common_elder(self, one, two):
        try:
            return nearest(self.parents, one, two)
        except BadState:
            return None

    def do_deed(self, deed):
        kind = deed[0]
        if kind == "step":
            return self.make_step(deed[1], deed[2])
        if kind == "go":
            return self.go_to(deed[1])
        if kind == "value":
            return self.value_of(deed[1])
        return self.common_elder(deed[1], deed[2])

    def pairs_at_hand(self):
        held = self.amounts[self.hand]
        return [(name, held[name]) for name in sorted(held) if held[name] != 0]


def answers(deeds):
    day = Day()
    answered = []
    for deed in deeds:
        answered.append(day.do_deed(deed))
    return answered


def behind(deeds):
    day = Day()
    for deed in deeds:
        day.do_deed(deed)
    return (day.parents, day.hand, day.pairs_at_hand())
