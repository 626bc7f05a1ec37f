import unittest

from branchway.errors import BadState, BadTree, BranchError
from branchway.tree import elders, is_elder, nearest, way
from samples import (BRANCHES, all_trees, bushy, chain, comb, crooked, slow_elders, slow_nearest, slow_way,
                     star)


class EldersTest(unittest.TestCase):
    def test_single_state(self):
        self.assertEqual(elders([None], 0), [0])
        self.assertIs(is_elder([None], 0, 0), True)

    def test_chain(self):
        self.assertEqual(elders(chain(5), 4), [4, 3, 2, 1, 0])
        self.assertEqual(elders(chain(5), 2), [2, 1, 0])
        self.assertEqual(elders(chain(5), 0), [0])

    def test_star(self):
        self.assertEqual(elders(star(5), 4), [4, 0])
        self.assertEqual(elders(star(5), 0), [0])

    def test_branches(self):
        self.assertEqual(elders(BRANCHES, 6), [6, 4, 1, 0])
        self.assertEqual(elders(BRANCHES, 9), [9, 8, 2, 0])
        self.assertEqual(elders(BRANCHES, 7), [7, 0])

    def test_elders_are_a_list_of_their_own(self):
        first = elders(BRANCHES, 6)
        self.assertIs(type(first), list)
        first.append(99)
        self.assertEqual(elders(BRANCHES, 6), [6, 4, 1, 0])

    def test_every_state_is_an_elder_of_itself_and_nought_of_all(self):
        for state in range(len(BRANCHES)):
            self.assertIs(is_elder(BRANCHES, state, state), True)
            self.assertIs(is_elder(BRANCHES, 0, state), True)

    def test_elder_one_way_round_only(self):
        self.assertIs(is_elder(BRANCHES, 1, 6), True)
        self.assertIs(is_elder(BRANCHES, 6, 1), False)
        self.assertIs(is_elder(BRANCHES, 1, 0), False)

    def test_no_elder_across_branches(self):
        self.assertIs(is_elder(BRANCHES, 3, 4), False)
        self.assertIs(is_elder(BRANCHES, 4, 3), False)
        self.assertIs(is_elder(BRANCHES, 2, 6), False)
        self.assertIs(is_elder(BRANCHES, 6, 2), False)


class NearestTest(unittest.TestCase):
    def test_single_state(self):
        self.assertEqual(nearest([None], 0, 0), 0)

    def test_same_state_twice(self):
        for state in range(len(BRANCHES)):
            self.assertEqual(nearest(BRANCHES, state, state), state)

    def test_one_an_elder_of_the_other(self):
        self.assertEqual(nearest(BRANCHES, 1, 6), 1)
        self.assertEqual(nearest(BRANCHES, 6, 1), 1)
        self.assertEqual(nearest(chain(9), 3, 8), 3)
        self.assertEqual(nearest(chain(9), 8, 3), 3)

    def test_only_nought_in_common(self):
        self.assertEqual(nearest(BRANCHES, 6, 9), 0)
        self.assertEqual(nearest(BRANCHES, 9, 6), 0)
        self.assertEqual(nearest(star(5), 1, 4), 0)
        self.assertEqual(nearest(star(5), 0, 4), 0)

    def test_neither_is_the_elder(self):
        self.assertEqual(nearest(BRANCHES, 5, 6), 4)
        self.assertEqual(nearest(BRANCHES, 3, 6), 1)
        self.assertEqual(nearest(BRANCHES, 6, 3), 1)


class WayTest(unittest.TestCase):
    def test_kinds(self):
        for one, two in [(0, 0), (6, 6), (0, 6), (6, 0), (6, 9)]:
            path = way(BRANCHES, one, two)
            self.assertIs(type(path), tuple)
            self.assertEqual([type(part) for part in path], [list, list])
            self.assertIsNot(path[0], path[1])

    def test_same_state_twice(self):
        self.assertEqual(way([None], 0, 0), ([], []))
        for state in range(len(BRANCHES)):
            self.assertEqual(way(BRANCHES, state, state), ([], []))

    def test_up_only(self):
        self.assertEqual(way(BRANCHES, 6, 0), ([6, 4, 1], []))
        self.assertEqual(way(BRANCHES, 6, 1), ([6, 4], []))
        self.assertEqual(way(chain(6), 5, 2), ([5, 4, 3], []))

    def test_down_only(self):
        self.assertEqual(way(BRANCHES, 0, 6), ([], [1, 4, 6]))
        self.assertEqual(way(BRANCHES, 1, 6), ([], [4, 6]))
        self.assertEqual(way(chain(6), 2, 5), ([], [3, 4, 5]))

    def test_across(self):
        self.assertEqual(way(BRANCHES, 6, 9), ([6, 4, 1], [2, 8, 9]))
        self.assertEqual(way(BRANCHES, 9, 6), ([9, 8, 2], [1, 4, 6]))
        self.assertEqual(way(BRANCHES, 3, 6), ([3], [4, 6]))
        self.assertEqual(way(star(5), 4, 1), ([4], [1]))

    def test_empty_just_where_the_state_is_the_nearest(self):
        for one in range(len(BRANCHES)):
            for two in range(len(BRANCHES)):
                top = nearest(BRANCHES, one, two)
                left, entered = way(BRANCHES, one, two)
                self.assertEqual(left == [], one == top)
                self.assertEqual(entered == [], two == top)


class AllPairsTest(unittest.TestCase):
    def check_pair(self, parents, one, two):
        self.assertEqual(nearest(parents, one, two), slow_nearest(parents, one, two))
        self.assertIs(is_elder(parents, one, two), one in slow_elders(parents, two))
        self.assertEqual(way(parents, one, two), slow_way(parents, one, two))

    def check_pairs(self, parents, states):
        for one in states:
            self.assertEqual(elders(parents, one), slow_elders(parents, one))
            for two in states:
                self.check_pair(parents, one, two)

    def test_all_trees_of_up_to_six_states(self):
        for count in range(1, 7):
            for parents in all_trees(count):
                self.check_pairs(parents, range(count))

    def test_trees_of_forty_states(self):
        for shape in (chain, star, bushy, crooked, comb):
            self.check_pairs(shape(40), range(40))

    def test_trees_of_five_hundred_states(self):
        for shape in (chain, star, bushy, crooked, comb):
            self.check_pairs(shape(500), [0, 1, 2, 3, 100, 249, 250, 333, 498, 499])

    def test_trees_beyond_the_bound(self):
        self.assertEqual(elders(chain(3000), 2999), list(range(2999, -1, -1)))
        self.assertEqual(nearest(chain(3000), 2999, 1200), 1200)
        self.assertEqual(way(chain(3000), 0, 2999), ([], list(range(1, 3000))))
        self.assertIs(is_elder(chain(3000), 0, 2999), True)
        self.assertEqual(way(star(3000), 2999, 2998), ([2999], [2998]))


NO_TREES = [
    [],
    [0],
    [1],
    [-1],
    [0, 0],
    [0, None],
    [None, None],
    [None, 0, None],
    [None, -1],
    [None, 0, -1, 0],
    [None, 0, -2],
    [None, 1],
    [None, 0, 2],
    [None, 2, 0],
    [None, 0, 3, 0],
    [None, 0, 1, 2, 4],
    [None, 0, 1, 2, 5],
    [None, 0, 10 ** 40],
    [None, 0, -10 ** 40],
    [None, 0, 10 ** 5000],
    chain(500) + [None],
    chain(500) + [500],
]


def calls_with(parents, state):
    """Each call of branchway.tree with the state in each place where one is told."""
    return [
        lambda: elders(parents, state),
        lambda: nearest(parents, state, 0),
        lambda: nearest(parents, 0, state),
        lambda: nearest(parents, state, state),
        lambda: is_elder(parents, state, 0),
        lambda: is_elder(parents, 0, state),
        lambda: is_elder(parents, state, state),
        lambda: way(parents, state, 0),
        lambda: way(parents, 0, state),
        lambda: way(parents, state, state),
    ]


class RefusalsTest(unittest.TestCase):
    def check_refused(self, error, parents, state):
        for number, call in enumerate(calls_with(parents, state)):
            with self.subTest(call=number, count=len(parents), end=parents[-3:] if len(parents) < 9 else None):
                with self.assertRaises(BranchError) as caught:
                    call()
                self.assertIs(type(caught.exception), error)

    def test_no_tree(self):
        for parents in NO_TREES:
            self.check_refused(BadTree, parents, 0)

    def test_no_tree_goes_ahead_of_no_state(self):
        for parents in NO_TREES:
            for state in (-1, len(parents), 10 ** 40):
                self.check_refused(BadTree, parents, state)

    def test_no_state(self):
        for parents in ([None], chain(5), star(5), BRANCHES, bushy(500)):
            count = len(parents)
            for state in (-1, -count, -count - 1, count, count + 1, 10 ** 40, -10 ** 40):
                self.check_refused(BadState, parents, state)

    def test_a_number_too_long_to_be_written(self):
        self.check_refused(BadState, BRANCHES, 10 ** 5000)
        self.check_refused(BadState, BRANCHES, -10 ** 5000)

    def test_the_last_state_is_a_state(self):
        for parents in ([None], chain(5), BRANCHES):
            for call in calls_with(parents, len(parents) - 1):
                call()


class NothingChangedTest(unittest.TestCase):
    def test_list_stays_and_answers_stay(self):
        for parents in ([None], chain(9), star(9), BRANCHES):
            before = list(parents)
            for call in calls_with(parents, len(parents) - 1):
                first = call()
                self.assertEqual(parents, before)
                self.assertEqual(call(), first)
                self.assertEqual(parents, before)

    def test_list_stays_where_it_is_refused(self):
        for parents in NO_TREES + [chain(9)]:
            before = list(parents)
            for call in calls_with(parents, -1):
                self.assertRaises(BranchError, call)
                self.assertEqual(parents, before)


if __name__ == "__main__":
    unittest.main()
