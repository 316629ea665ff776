import collections
import unittest

from setfamilies.families import apart, both, kind, pressed, shown
from tests import helper

WRONG_W = [2 ** 31, helper.LARGEST - 1, helper.LARGEST]


def shown_of(w):
    """The call for one w alone, of n, x and y as the others are."""
    return lambda n, x, y: shown(n, w, x, y)


def least_that_shows(n, w, x, y):
    return (helper.things_that_show(n, w, x, y) or [-33])[:1]


def pressed_by_counting(n, x):
    """Of the sets that are alike but for one thing the one without it stays first."""
    family = [helper.THINGS_OF[a] for a in x]
    for v in range(n):
        times = collections.Counter(things - {v} for things in family)
        family = list(times) + [things | {v} for things in times if times[things] == 2]
    return helper.told(family)


def few_pairs(n):
    """All pairs of families for few things, some for more."""
    if n <= 2:
        return helper.pairs(n)
    families = helper.some_families(n, 8) + helper.few_of(helper.ups(n))[::3] + helper.few_of(helper.downs(n))[::3]
    return [(x, y) for x in families for y in families]


class OrdinaryFamilies(unittest.TestCase):
    def test_shown_by_hand(self):
        self.assertEqual(shown(2, 0, [0, 1], [0, 2]), [2])
        self.assertEqual(shown(2, 0, [0, 2], [0, 1]), [1])
        self.assertEqual(shown(2, 3, [1, 2, 3], [1, 2, 3]), [1])
        self.assertEqual(shown(3, 3, [1, 3, 5, 7], [2, 3, 6, 7]), [1])
        self.assertEqual(shown(3, 7, [1, 3, 5, 7], [2, 3, 6, 7]), [1])
        self.assertEqual(shown(3, 5, [5, 7], [4, 5, 6, 7]), [-33])
        self.assertEqual(shown(3, 5, [5, 7], [1, 4, 5, 7]), [-33])
        self.assertEqual(shown(3, 5, [5, 7], [0, 1, 4, 5]), [5])

    def test_shown_is_the_least_of_all_that_show_it(self):
        for n in range(1, 6):
            for x, y in few_pairs(n):
                for w in helper.all_sets(n):
                    answer = shown(n, w, x, y)
                    self.assertEqual(answer, least_that_shows(n, w, x, y), (n, w, x, y))

    def test_shown_is_pure(self):
        for n in range(1, 6):
            for x, y in few_pairs(n)[::3]:
                for w in (0, 1, 2 ** n - 1, 2 ** n, helper.LARGEST):
                    helper.check_pure(self, shown_of(w), n, x, y)

    def test_shown_just_where_it_is_apart(self):
        for n in range(1, 6):
            for x, y in few_pairs(n)[::3]:
                found = [w for w in helper.all_sets(n) if shown(n, w, x, y) != [-33]]
                self.assertEqual(apart(n, x, y), [len(found)] + found, (n, x, y))

    def test_a_greater_set_of_things_would_do_as_well(self):
        x = [0, 1, 2, 4, 5, 6]
        self.assertEqual(helper.things_that_show(3, 0, x, [0, 1, 2]), [1, 2])
        self.assertEqual(shown(3, 0, x, [0, 1, 2]), [1])
        self.assertEqual(helper.things_that_show(3, 0, x, [0, 2]), [2])
        self.assertEqual(shown(3, 0, x, [0, 2]), [2])

    def test_the_least_is_the_least_number(self):
        # One thing alone, 2, would do as well as 0 and 1 together; but 4 is more than 3.
        x = [0, 1, 2, 3, 4]
        self.assertEqual(helper.things_that_show(3, 0, x, x), [3, 4])
        self.assertEqual(shown(3, 0, x, x), [3])

    def test_pressed_by_hand(self):
        self.assertEqual(pressed(2, [3]), [1, 0])
        self.assertEqual(pressed(3, [3, 5, 6]), [3, 0, 2, 4])
        self.assertEqual(pressed(3, [1, 2, 4]), [3, 0, 2, 4])
        self.assertEqual(pressed(3, [0, 7]), [2, 0, 4])
        self.assertEqual(pressed(3, [1, 3]), [2, 0, 2])
        self.assertEqual(pressed(4, [3, 7, 11, 12, 13, 14, 15]), [7, 0, 1, 2, 3, 4, 8, 12])
        self.assertEqual(pressed(5, [31]), [1, 0])

    def test_pressed_from_thing_0_on(self):
        # The other way round, 1 ahead of 0, these would come to [2, 0, 1].
        self.assertEqual(pressed(2, [1, 2]), [2, 0, 2])
        self.assertEqual(pressed(5, [8, 16]), [2, 0, 16])

    def test_pressed_is_told_by_counting(self):
        helper.check_answers_of_singles(self, pressed, pressed_by_counting)

    def test_called_by_the_names_of_the_interface(self):
        self.assertEqual(shown(n=2, w=0, x=[0, 1], y=[0, 2]), [2])
        self.assertEqual(pressed(n=2, x=[1, 2]), [2, 0, 2])

    def test_one_list_as_both(self):
        for w in (0, 1, 2, 31):
            helper.check_one_list_as_both(self, shown_of(w))


class Corners(unittest.TestCase):
    def test_no_sets(self):
        for n in range(1, 6):
            self.assertEqual(pressed(n, []), [0])
            for x in helper.some_families(n, 10):
                for w in helper.all_sets(n):
                    self.assertEqual(shown(n, w, x, []), [-33])
                    self.assertEqual(shown(n, w, [], x), [-33])

    def test_the_empty_set_alone(self):
        for n in range(1, 6):
            whole = helper.all_sets(n)
            self.assertEqual(pressed(n, [0]), [1, 0])
            self.assertEqual(shown(n, 0, [0], [0]), [-33])
            self.assertEqual(shown(n, 0, [0], whole), [2 ** n - 1])
            self.assertEqual(shown(n, 0, whole, [0]), [0])
            for w in whole[1:]:
                self.assertEqual(shown(n, w, [0], whole), [-33])
                self.assertEqual(shown(n, w, whole, [0]), [-33])

    def test_all_sets(self):
        for n in range(1, 6):
            whole = helper.all_sets(n)
            self.assertEqual(pressed(n, whole), [2 ** n] + whole)
            for w in whole:
                self.assertEqual(shown(n, w, whole, whole), [0])
                for x in helper.some_families(n, 10):
                    self.assertEqual(shown(n, w, whole, x), [0] if w in x else [-33])

    def test_no_things_and_all_things(self):
        for n in range(1, 6):
            whole = helper.all_sets(n)
            for w in whole:
                self.assertEqual(shown(n, w, whole, [w]), [0])
                self.assertEqual(shown(n, w, [w], whole), [2 ** n - 1])

    def test_any_set_of_things_may_be_the_answer(self):
        for n in range(1, 6):
            for w in (0, 1, 2 ** n - 2, 2 ** n - 1):
                for things in helper.all_sets(n):
                    x = sorted(helper.LIKE[n, w, things])
                    y = sorted(helper.LIKE[n, w, 2 ** n - 1 - things])
                    self.assertEqual(shown(n, w, x, y), [things])

    def test_a_family_and_itself(self):
        for n in range(1, 6):
            for x in helper.some_families(n, 20):
                for w in helper.all_sets(n):
                    self.assertEqual(shown(n, w, x, list(x)), least_that_shows(n, w, x, x))
            for a in helper.all_sets(n):
                self.assertEqual(shown(n, a, [a], [a]), [-33])

    def test_one_that_is_up_and_down(self):
        for n in range(1, 6):
            whole = helper.all_sets(n)
            for x in ([], whole):
                self.assertEqual(pressed(n, x), [len(x)] + x)
            for w in whole:
                self.assertEqual(shown(n, w, [], []), [-33])
                self.assertEqual(shown(n, w, [], whole), [-33])
                self.assertEqual(shown(n, w, whole, []), [-33])

    def test_one_thing(self):
        in_turn = ([], [0], [1], [0, 1])
        for_0 = [[-33] * 4, [-33, -33, -33, 1], [-33] * 4, [-33, 0, -33, 0]]
        for_1 = [[-33] * 4, [-33] * 4, [-33, -33, -33, 1], [-33, -33, 0, 0]]
        for w, answers in ((0, for_0), (1, for_1)):
            self.assertEqual([[shown(1, w, x, y)[0] for y in in_turn] for x in in_turn], answers)
        self.assertEqual([pressed(1, x) for x in in_turn], [[0], [1, 0], [1, 0], [2, 0, 1]])

    def test_nothing_taken_out(self):
        for n in range(1, 6):
            for x in helper.downs(n):
                self.assertEqual(pressed(n, x), [len(x)] + x)

    def test_one_set_alone_loses_all_things(self):
        for n in range(1, 6):
            for a in helper.all_sets(n):
                self.assertEqual(pressed(n, [a]), [1, 0])

    def test_those_that_are_up(self):
        for n in range(1, 6):
            for x in helper.some_of(helper.ups(n)):
                self.assertEqual(pressed(n, x), pressed_by_counting(n, x), (n, x))


class Refusals(unittest.TestCase):
    def test_shown_has_no_family(self):
        for w in (0, 1, helper.LARGEST):
            helper.check_pair_refusals(self, shown_of(w))

    def test_pressed(self):
        helper.check_one_refusals(self, pressed)

    def test_short_lists(self):
        helper.check_short_singles(self, pressed)
        for n, others in ((1, [[], [0], [0, 1], [1, 0], [2]]), (2, [[], [3], [0, 4], [2, 2]])):
            for numbers in helper.short_lists(n):
                for other in others:
                    taken = helper.is_told_right(n, numbers) and helper.is_told_right(n, other)
                    for x, y in ((numbers, other), (other, numbers)):
                        self.assertEqual(shown(n, 2 ** n, x, y), [-2] if taken else [-22], (n, x, y))
                        expected = least_that_shows(n, 0, x, y) if taken else [-22]
                        self.assertEqual(shown(n, 0, x, y), expected, (n, x, y))

    def test_no_set_w(self):
        for n in range(1, 6):
            for x, y in [([], []), ([0], [0]), (helper.all_sets(n), helper.all_sets(n))] + few_pairs(n)[::7]:
                for w in [2 ** n, 2 ** n + 1, 2 ** (n + 1), 2 ** (n + 1) - 1, 32, 63, 64] + WRONG_W:
                    self.assertEqual(helper.check_pure(self, shown_of(w), n, x, y), [-2], (n, w, x, y))
                self.assertNotEqual(shown(n, 2 ** n - 1, x, y), [-2])

    def test_not_in_both_apart(self):
        in_neither = (3, 4, [0, 1], [0, 2])
        in_x_alone = (3, 1, [0, 1], [0, 2])
        in_y_alone = (3, 2, [0, 1], [0, 2])
        in_both_but_not_apart = (3, 0, [0, 1], [0, 2])
        for n, w, x, y in (in_neither, in_x_alone, in_y_alone, in_both_but_not_apart):
            self.assertEqual(helper.check_pure(self, shown_of(w), n, x, y), [-33])
        for n in range(1, 6):
            odd = helper.all_sets(n)[1::2]
            self.assertEqual(both(n, odd, odd), [2 ** (n - 1)])
            for w in helper.all_sets(n):
                self.assertEqual(shown(n, w, odd, odd), [-33])

    def test_several_at_once(self):
        self.assertEqual(shown(0, 9, [1, 0], [9]), [-22])
        self.assertEqual(shown(6, 64, [], []), [-22])
        self.assertEqual(shown(helper.LARGEST, helper.LARGEST, [], []), [-22])
        self.assertEqual(shown(2, 4, [4], [0]), [-22])
        self.assertEqual(shown(2, 4, [0], [1, 1]), [-22])
        self.assertEqual(shown(2, 0, [1], [1, 0]), [-22])
        self.assertEqual(shown(2, 4, [], []), [-2])


class WhatHolds(unittest.TestCase):
    def test_pressed_down_there_are_as_many_and_it_is_down(self):
        for n in range(1, 6):
            for x in helper.singles(n) + helper.some_of(helper.ups(n)):
                answer = pressed(n, x)
                self.assertEqual(answer[0], len(x), (n, x))
                self.assertEqual(answer[0], len(answer) - 1)
                self.assertIn(kind(n, answer[1:]), ([2], [3]), (n, x))
                self.assertEqual(pressed(n, answer[1:]), answer, (n, x))


if __name__ == "__main__":
    unittest.main()
