import copy
import random
import unittest

from branchway.day import answers, behind
from samples import slow_day

# 0 has the children 1 and 4; 1 has 2; 2 has 3; 4 has 5. The hand ends at 5.
BRANCHED = [
    ("step", "a", 5),
    ("step", "b", 2),
    ("step", "a", -1),
    ("go", 0),
    ("step", "a", 7),
    ("step", "c", 3),
]

NO_STATES = [-1, -5, -6, -7, 6, 7, 10 ** 30, -10 ** 30, 10 ** 5000, -10 ** 5000]


def last(deeds):
    return answers(deeds)[-1]


class EmptyDayTest(unittest.TestCase):
    def test_answers(self):
        self.assertEqual(answers([]), [])

    def test_behind(self):
        self.assertEqual(behind([]), ([None], 0, []))

    def test_the_state_nought_is_there(self):
        self.assertEqual(answers([("go", 0), ("common", 0, 0), ("value", "a")]), [([], []), 0, 0])

    def test_no_other_state_is_there(self):
        self.assertEqual(answers([("go", 1), ("common", 0, 1), ("common", 1, 0)]), [None, None, None])


class StepTest(unittest.TestCase):
    def test_answered_with_the_next_number(self):
        self.assertEqual(answers(BRANCHED), [1, 2, 3, ([3, 2, 1], []), 4, 5])

    def test_parent_is_where_the_hand_was(self):
        self.assertEqual(behind(BRANCHED)[0], [None, 0, 1, 2, 0, 4])

    def test_hand_goes_to_the_new_state(self):
        self.assertEqual(behind(BRANCHED)[1], 5)
        self.assertEqual(behind(BRANCHED[:3])[1], 3)

    def test_amounts_above_below_and_of_nought(self):
        deeds = [("step", "a", 5), ("value", "a"), ("step", "a", -8), ("value", "a"), ("step", "a", 0), ("value", "a")]
        self.assertEqual(answers(deeds), [1, 5, 2, -3, 3, -3])

    def test_a_step_of_nought_makes_a_state(self):
        self.assertEqual(behind([("step", "a", 0)]), ([None, 0], 1, []))

    def test_other_names_have_what_they_have_at_the_parent(self):
        deeds = [("step", "a", 5), ("step", "b", 2), ("value", "a"), ("value", "b"), ("step", "c", 1), ("value", "a")]
        self.assertEqual(answers(deeds), [1, 2, 5, 2, 3, 5])

    def test_same_name_on_different_branches(self):
        self.assertEqual(last(BRANCHED + [("value", "a")]), 7)
        self.assertEqual(last(BRANCHED + [("go", 3), ("value", "a")]), 4)
        self.assertEqual(last(BRANCHED + [("go", 2), ("value", "a")]), 5)
        self.assertEqual(last(BRANCHED + [("go", 0), ("value", "a")]), 0)

    def test_a_step_below_leaves_the_parent_as_it_was(self):
        deeds = [("step", "a", 1), ("step", "a", 10), ("go", 1), ("step", "a", 100), ("value", "a"), ("go", 1)]
        self.assertEqual(answers(deeds + [("value", "a"), ("go", 2), ("value", "a")])[4:],
                         [101, ([3], []), 1, ([], [2]), 11])

    def test_long_numbers(self):
        great = 10 ** 35 + 7
        deeds = [("step", "a", great), ("step", "a", great), ("value", "a"), ("step", "a", -3 * great), ("value", "a")]
        self.assertEqual(answers(deeds), [1, 2, 2 * great, 3, -great])
        self.assertEqual(behind(deeds), ([None, 0, 1, 2], 3, [("a", -great)]))
        self.assertEqual(last([("step", "a", 2 ** 64), ("step", "a", 1), ("value", "a")]), 2 ** 64 + 1)

    def test_very_long_numbers(self):
        self.assertEqual(last([("step", "a", 10 ** 5000), ("step", "a", 1 - 10 ** 5000), ("value", "a")]), 1)


class NamesTest(unittest.TestCase):
    def test_empty_text(self):
        deeds = [("value", ""), ("step", "", 3), ("value", ""), ("value", " ")]
        self.assertEqual(answers(deeds), [0, 1, 3, 0])
        self.assertEqual(behind(deeds)[2], [("", 3)])

    def test_long_names_that_differ_in_one_sign(self):
        one, two, three = "x" * 3000 + "a", "x" * 3000 + "b", "y" + "x" * 2999 + "a"
        deeds = [("step", one, 1), ("step", two, 20), ("step", three, 300)]
        asked = [("value", one), ("value", two), ("value", three), ("value", "x" * 3000)]
        self.assertEqual(answers(deeds + asked), [1, 2, 3, 1, 20, 300, 0])
        self.assertEqual(behind(deeds)[2], [(one, 1), (two, 20), (three, 300)])

    def test_names_like_deeds_and_numbers(self):
        deeds = [("step", "go", 1), ("step", "step", 2), ("step", "0", 4), ("value", "go"), ("value", "step")]
        self.assertEqual(answers(deeds + [("value", "0"), ("value", "value")]), [1, 2, 3, 1, 2, 4, 0])

    def test_names_are_not_folded_or_trimmed(self):
        deeds = [("step", "Name", 1), ("value", "name"), ("value", "Name "), ("value", "Name")]
        self.assertEqual(answers(deeds), [1, 0, 0, 1])
        self.assertEqual(answers([("step", "\u00e9", 1), ("value", "e\u0301")]), [1, 0])


class ValueTest(unittest.TestCase):
    def test_name_that_no_step_has_told(self):
        self.assertEqual(last([("value", "a")]), 0)
        self.assertEqual(last(BRANCHED + [("value", "z")]), 0)

    def test_name_told_on_another_branch_only(self):
        self.assertEqual(last(BRANCHED + [("value", "b")]), 0)
        self.assertEqual(last(BRANCHED + [("go", 1), ("value", "c")]), 0)

    def test_name_told_further_down_only(self):
        self.assertEqual(last(BRANCHED + [("go", 1), ("value", "b")]), 0)

    def test_asking_changes_nothing(self):
        self.assertEqual(behind(BRANCHED + [("value", "a"), ("value", "z")]), behind(BRANCHED))


class GoTest(unittest.TestCase):
    def check_way(self, start, state, expected):
        deeds = BRANCHED + [("go", start), ("go", state)]
        path = last(deeds)
        self.assertEqual(path, expected)
        self.assertIs(type(path), tuple)
        self.assertEqual([type(part) for part in path], [list, list])
        self.assertEqual(behind(deeds)[:2], ([None, 0, 1, 2, 0, 4], state))

    def test_up(self):
        self.check_way(3, 1, ([3, 2], []))
        self.check_way(5, 0, ([5, 4], []))

    def test_down(self):
        self.check_way(1, 3, ([], [2, 3]))
        self.check_way(0, 5, ([], [4, 5]))

    def test_across(self):
        self.check_way(3, 5, ([3, 2, 1], [4, 5]))
        self.check_way(5, 2, ([5, 4], [1, 2]))

    def test_to_where_the_hand_is(self):
        for state in range(6):
            self.check_way(state, state, ([], []))

    def test_no_state(self):
        for state in NO_STATES:
            self.assertIsNone(last(BRANCHED + [("go", state)]))

    def test_nothing_changed_where_it_is_no_state(self):
        for state in NO_STATES:
            self.assertEqual(behind(BRANCHED + [("go", state)]), behind(BRANCHED))
            after = [("go", state), ("value", "a"), ("go", 2), ("step", "n", 1)]
            self.assertEqual(answers(BRANCHED + after)[6:], [None, 7, ([5, 4], [1, 2]), 6])

    def test_a_state_that_comes_later(self):
        deeds = [("go", 1), ("step", "a", 1), ("go", 1), ("go", 2)]
        self.assertEqual(answers(deeds), [None, 1, ([], []), None])


class CommonTest(unittest.TestCase):
    def test_common_elder(self):
        for one, two, top in [(3, 5, 0), (5, 3, 0), (3, 1, 1), (1, 3, 1), (4, 5, 4), (2, 2, 2), (0, 0, 0), (5, 5, 5)]:
            self.assertEqual(last(BRANCHED + [("common", one, two)]), top)

    def test_two_branches_beneath_another_state(self):
        deeds = [("step", "a", 1), ("step", "a", 1), ("go", 1), ("step", "a", 1), ("step", "a", 1)]
        self.assertEqual(last(deeds + [("common", 2, 4)]), 1)
        self.assertEqual(last(deeds + [("common", 4, 2)]), 1)

    def test_hand_stays(self):
        self.assertEqual(behind(BRANCHED + [("common", 3, 2)]), behind(BRANCHED))

    def test_no_state_in_each_place(self):
        for state in NO_STATES:
            for deed in [("common", state, 0), ("common", 0, state), ("common", state, state), ("common", 5, state)]:
                self.assertIsNone(last(BRANCHED + [deed]))
                self.assertEqual(behind(BRANCHED + [deed]), behind(BRANCHED))
                self.assertEqual(last(BRANCHED + [deed, ("step", "a", 1)]), 6)


class BehindTest(unittest.TestCase):
    def test_kinds(self):
        found = behind(BRANCHED)
        self.assertIs(type(found), tuple)
        self.assertEqual([type(part) for part in found], [list, int, list])
        self.assertEqual([type(pair) for pair in found[2]], [tuple, tuple])

    def test_whole(self):
        self.assertEqual(behind(BRANCHED), ([None, 0, 1, 2, 0, 4], 5, [("a", 7), ("c", 3)]))
        self.assertEqual(behind(BRANCHED + [("go", 3)]), ([None, 0, 1, 2, 0, 4], 3, [("a", 4), ("b", 2)]))
        self.assertEqual(behind(BRANCHED + [("go", 0)]), ([None, 0, 1, 2, 0, 4], 0, []))

    def test_sum_of_nought_is_left_out(self):
        deeds = [("step", "a", 5), ("step", "b", 1), ("step", "a", -5)]
        self.assertEqual(behind(deeds), ([None, 0, 1, 2], 3, [("b", 1)]))

    def test_amount_below_nought_is_told(self):
        self.assertEqual(behind([("step", "a", -5)])[2], [("a", -5)])

    def test_order_of_texts(self):
        names = ["b", "a", "B", "", "10", "9", "ab", "a b", "\u00e9", "z", "\U0001f333", "\uffff", "_", "\n"]
        deeds = [("step", name, place + 1) for place, name in enumerate(names)]
        self.assertEqual(behind(deeds)[2], sorted((name, place + 1) for place, name in enumerate(names)))
        self.assertEqual([name for name, amount in behind(deeds)[2]],
                         ["", "\n", "10", "9", "B", "_", "a", "a b", "ab", "b", "z", "\u00e9", "\uffff", "\U0001f333"])

    def test_order_is_not_that_of_amounts(self):
        self.assertEqual(behind([("step", "b", 1), ("step", "a", 2)])[2], [("a", 2), ("b", 1)])


class NothingChangedTest(unittest.TestCase):
    def test_list_stays_and_answers_stay(self):
        deeds = BRANCHED + [("go", 9), ("go", 2), ("common", 3, 9), ("common", 3, 5), ("value", "a")]
        before = copy.deepcopy(deeds)
        for call in (answers, behind):
            first = call(deeds)
            self.assertEqual(deeds, before)
            self.assertEqual(call(deeds), first)
            self.assertEqual(deeds, before)

    def test_what_is_given_back_is_not_kept(self):
        first = behind(BRANCHED)
        first[0].append(0)
        first[2].append(("z", 1))
        answers(BRANCHED)[3][0].append(9)
        self.assertEqual(behind(BRANCHED), ([None, 0, 1, 2, 0, 4], 5, [("a", 7), ("c", 3)]))
        self.assertEqual(answers(BRANCHED)[3], ([3, 2, 1], []))


def drawn_deed(source, states):
    kind = source.choice(["step", "step", "go", "go", "value", "common"])
    if kind == "step":
        return (kind, source.choice("abcd"), source.choice([-10 ** 30, -2, -1, 0, 1, 2, 10 ** 30]))
    if kind == "value":
        return (kind, source.choice("abcde"))
    told = [source.randrange(-1, states + 1) for place in range(2)]
    return (kind, told[0]) if kind == "go" else (kind, told[0], told[1])


def drawn_day(seed, count):
    source = random.Random(seed)
    deeds, states = [], 1
    for place in range(count):
        deed = drawn_deed(source, states)
        states += deed[0] == "step"
        deeds.append(deed)
    return deeds


class LongDaysTest(unittest.TestCase):
    def check_same(self, found, expected):
        # Not assertEqual: drawing up the difference of two long lists may take minutes.
        self.assertTrue(found == expected, "the answers differ")

    def check_day(self, deeds):
        given, parents, hand, sums = slow_day(deeds)
        self.check_same(answers(deeds), given)
        pairs = sorted(pair for pair in sums.items() if pair[1] != 0)
        self.check_same(behind(deeds), (parents, hand, pairs))

    def test_drawn_days(self):
        for seed in range(100):
            self.check_day(drawn_day(seed, 40))

    def test_drawn_days_of_five_hundred_deeds(self):
        for seed in range(3):
            self.check_day(drawn_day(seed, 500))

    def test_five_hundred_steps_on_one_way(self):
        deeds = [("step", "a", place) for place in range(500)]
        self.check_same(answers(deeds), list(range(1, 501)))
        self.check_same(behind(deeds), ([None] + list(range(500)), 500, [("a", sum(range(500)))]))

    def test_five_hundred_names(self):
        deeds = [("step", str(place), place) for place in range(500)]
        self.check_same(behind(deeds)[2], sorted((str(place), place) for place in range(1, 500)))

    def test_a_star_of_a_day(self):
        deeds = [("step", "a", 1), ("go", 0)] * 250
        self.check_same(behind(deeds), ([None] + [0] * 250, 0, []))

    def test_beyond_the_bound(self):
        deeds = [("step", "a", 1)] * 1500 + [("go", 0), ("go", 1500), ("value", "a"), ("common", 700, 1500)]
        self.check_same(answers(deeds)[1500:],
                        [(list(range(1500, 0, -1)), []), ([], list(range(1, 1501))), 1500, 700])


if __name__ == "__main__":
    unittest.main()
