"""Trees for the tests, and slow answers drawn straight from the document's words."""

import itertools

# 0 has the children 1, 2 and 7; 1 has 3 and 4; 4 has 5 and 6; 2 has 8; 8 has 9.
BRANCHES = [None, 0, 0, 1, 1, 4, 4, 0, 2, 8]


def chain(count):
    return [None] + list(range(count - 1))


def star(count):
    return [None] + [0] * (count - 1)


def bushy(count):
    return [None] + [(child - 1) // 3 for child in range(1, count)]


def crooked(count):
    return [None] + [(child * child * 7 + 3) % child for child in range(1, count)]


def comb(count):
    return [None] + [child - 1 if child % 2 else max(child - 2, 0) for child in range(1, count)]


def all_trees(count):
    for rest in itertools.product(*[range(child) for child in range(1, count)]):
        yield [None] + list(rest)


def slow_elders(parents, state):
    if parents[state] is None:
        return [state]
    return [state] + slow_elders(parents, parents[state])


def slow_nearest(parents, one, two):
    shared = set(slow_elders(parents, one)) & set(slow_elders(parents, two))
    found = [state for state in shared if shared <= set(slow_elders(parents, state))]
    if len(found) != 1:
        raise AssertionError("the nearest common elder is not just one")
    return found[0]


def slow_way(parents, one, two):
    shared = set(slow_elders(parents, one)) & set(slow_elders(parents, two))
    left = [state for state in slow_elders(parents, one) if state not in shared]
    entered = [state for state in slow_elders(parents, two) if state not in shared]
    return (left, entered[::-1])


def slow_day(deeds):
    """The answers of a day, its tree, its hand and a dict of what the names have there."""
    parents, steps, hand, given = [None], [None], 0, []
    for deed in deeds:
        if deed[0] == "step":
            parents.append(hand)
            steps.append(deed[1:])
            hand = len(parents) - 1
            given.append(hand)
        elif deed[0] == "go":
            known = 0 <= deed[1] < len(parents)
            given.append(slow_way(parents, hand, deed[1]) if known else None)
            hand = deed[1] if known else hand
        elif deed[0] == "value":
            given.append(slow_sums(parents, steps, hand).get(deed[1], 0))
        else:
            known = all(0 <= state < len(parents) for state in deed[1:])
            given.append(slow_nearest(parents, deed[1], deed[2]) if known else None)
    return given, parents, hand, slow_sums(parents, steps, hand)


def slow_sums(parents, steps, state):
    sums = {}
    for elder in slow_elders(parents, state)[:-1]:
        name, amount = steps[elder]
        sums[name] = sums.get(name, 0) + amount
    return sums
