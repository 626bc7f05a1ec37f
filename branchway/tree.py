"""Trees of states, each told by its parent, and the ways between the states."""

from branchway.errors import BadState, BadTree


def check_tree(parents):
    if len(parents) == 0:
        raise BadTree("a tree has at least the state nought")
    if parents[0] is not None:
        raise BadTree("the state nought has no parent")
    for child in range(1, len(parents)):
        parent = parents[child]
        if parent is None or parent < 0 or parent >= child:
            raise BadTree("the parent of a state is an earlier state")


def check_state(parents, state):
    # The number is not shown: Python may refuse to write a very long one, and with another error.
    if state < 0 or state >= len(parents):
        raise BadState("the number is none of a state")


def check_states(parents, one, two):
    check_tree(parents)
    check_state(parents, one)
    check_state(parents, two)


def meeting_state(parents, one, two):
    left = one
    right = two
    # Elders have smaller numbers, so the greater of two is no elder of the other and can be left.
    while left != right:
        if left > right:
            left = parents[left]
        else:
            right = parents[right]
    return left


def states_beneath(parents, top, state):
    passed = []
    at = state
    while at != top:
        passed.append(at)
        at = parents[at]
    return passed


def elders(parents, state):
    check_tree(parents)
    check_state(parents, state)
    return states_beneath(parents, 0, state) + [0]


def nearest(parents, one, two):
    check_states(parents, one, two)
    return meeting_state(parents, one, two)


def is_elder(parents, one, two):
    check_states(parents, one, two)
    return meeting_state(parents, one, two) == one


def way(parents, one, two):
    check_states(parents, one, two)
    top = meeting_state(parents, one, two)
    left = states_beneath(parents, top, one)
    entered = states_beneath(parents, top, two)
    return (left, list(reversed(entered)))
