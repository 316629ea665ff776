import math
import unittest

from setfamilies.families import above, below, kind, less, meet, pressed, shattered
from tests import helper


def told_by_counting(n, x):
    """A set of things is told apart if the family has all there may be of it: 2 to the power of how many things."""
    sets = [helper.THINGS_OF[a] for a in x]
    return helper.told(
        things for things in helper.THINGS_OF[:2 ** n] if len({has & things for has in sets}) == 2 ** len(things)
    )


def told_by_halves(n, x):
    """Rising, by the last thing: told apart without it by either half's sets, with it by both halves each."""
    if n == 0:
        return [0] if x else []
    last = 2 ** (n - 1)
    without = {a for a in x if a < last}
    rest_of_with = {a - last for a in x if a >= last}
    by_both = set(told_by_halves(n - 1, without)) & set(told_by_halves(n - 1, rest_of_with))
    return sorted(told_by_halves(n - 1, without | rest_of_with)) + sorted(a + last for a in by_both)


def families_of_many_kinds(n):
    return helper.singles(n) + helper.some_of(helper.ups(n)) + helper.some_of(helper.downs(n))


def any_two_have_a_thing_in_common(n, x):
    return all(meet(n, [a], [b]) != [1, 0] for place, a in enumerate(x) for b in x[place + 1:])


def as_many_as_may_meet(n, turn):
    """Sets in an order of their own for each turn, each taken if it has a thing in common with all taken so far."""
    taken = []
    for place in range(2 ** n):
        # An odd factor and a shift go through all numbers below a power of 2.
        a = (place * (2 * turn + 1) + turn * turn) % 2 ** n
        if a and all(a & b for b in taken):
            taken.append(a)
    return sorted(taken)


class OrdinaryFamilies(unittest.TestCase):
    def test_by_hand(self):
        self.assertEqual(shattered(2, [3]), [1, 0])
        self.assertEqual(shattered(2, [1, 2]), [3, 0, 1, 2])
        self.assertEqual(shattered(2, [0, 1, 3]), [3, 0, 1, 2])
        self.assertEqual(shattered(3, [3, 5, 6]), [4, 0, 1, 2, 4])
        self.assertEqual(shattered(3, [0, 7]), [4, 0, 1, 2, 4])
        self.assertEqual(shattered(3, [0, 3, 5, 6]), [7, 0, 1, 2, 3, 4, 5, 6])
        self.assertEqual(shattered(3, [1, 3, 5, 7]), [4, 0, 2, 4, 6])
        self.assertEqual(shattered(5, [16, 31]), [5, 0, 1, 2, 4, 8])

    def test_told_by_counting(self):
        helper.check_answers_of_singles(self, shattered, told_by_counting)

    def test_told_by_halves(self):
        for n in range(1, 6):
            for x in families_of_many_kinds(n):
                told = told_by_halves(n, x)
                self.assertEqual(shattered(n, x), [len(told)] + told, (n, x))

    def test_what_is_told_apart_is_down(self):
        for n in range(1, 6):
            for x in families_of_many_kinds(n):
                self.assertIn(kind(n, shattered(n, x)[1:]), ([2], [3]), (n, x))

    def test_things_turned_round_are_told_apart_alike(self):
        for n in range(1, 6):
            for x in helper.few_of(helper.singles(n)):
                for turned in helper.all_sets(n):
                    self.assertEqual(shattered(n, sorted(a ^ turned for a in x)), shattered(n, x), (n, x, turned))

    def test_all_but_one_that_is_needed(self):
        for n in range(1, 6):
            whole = helper.all_sets(n)
            for place in range(len(whole)):
                self.assertEqual(shattered(n, whole[:place] + whole[place + 1:]), [2 ** n - 1] + whole[:-1])

    def test_called_by_the_names_of_the_interface(self):
        self.assertEqual(shattered(n=2, x=[1, 2]), [3, 0, 1, 2])


class Corners(unittest.TestCase):
    def test_no_sets(self):
        for n in range(1, 6):
            self.assertEqual(shattered(n, []), [0])

    def test_the_empty_set_alone(self):
        for n in range(1, 6):
            self.assertEqual(shattered(n, [0]), [1, 0])

    def test_any_set_alone(self):
        for n in range(1, 6):
            for a in helper.all_sets(n):
                self.assertEqual(shattered(n, [a]), [1, 0])

    def test_all_sets(self):
        for n in range(1, 6):
            self.assertEqual(shattered(n, helper.all_sets(n)), [2 ** n] + helper.all_sets(n))

    def test_one_that_is_up_and_down(self):
        for n in range(1, 6):
            for x in ([], helper.all_sets(n)):
                self.assertEqual(kind(n, x), [3])
                self.assertEqual(shattered(n, x), [len(x)] + x)

    def test_one_that_is_down_tells_apart_its_own_sets(self):
        for n in range(1, 6):
            for x in helper.some_of(helper.downs(n)):
                self.assertEqual(shattered(n, x), [len(x)] + x)

    def test_one_that_is_up_tells_apart_what_its_sets_lack(self):
        for n in range(1, 6):
            for x in helper.some_of(helper.ups(n)):
                lacked = sorted(2 ** n - 1 - a for a in x)
                self.assertEqual(shattered(n, x), [len(x)] + lacked)

    def test_one_thing(self):
        self.assertEqual([shattered(1, x) for x in ([], [0], [1], [0, 1])], [[0], [1, 0], [1, 0], [2, 0, 1]])


class Refusals(unittest.TestCase):
    def test_shattered(self):
        helper.check_one_refusals(self, shattered)

    def test_short_lists(self):
        helper.check_short_singles(self, shattered)


class WhatHolds(unittest.TestCase):
    def test_each_set_pressed_down_is_told_apart(self):
        for n in range(1, 6):
            for x in families_of_many_kinds(n):
                down = pressed(n, x)
                self.assertEqual(down[0], len(x), (n, x))
                self.assertIn(kind(n, down[1:]), ([2], [3]), (n, x))
                self.assertLessEqual(set(down[1:]), set(shattered(n, x)[1:]), (n, x))

    def test_no_fewer_are_told_apart_than_it_has_sets(self):
        for n in range(1, 6):
            for x in families_of_many_kinds(n):
                self.assertGreaterEqual(shattered(n, x)[0], len(x), (n, x))

    def test_with_many_sets_many_things_are_told_apart_at_once(self):
        for n in range(1, 6):
            for x in families_of_many_kinds(n):
                most = max([len(helper.THINGS_OF[a]) for a in shattered(n, x)[1:]], default=-1)
                self.assertLessEqual(len(x), sum(math.comb(n, size) for size in range(most + 1)), (n, x))

    def test_if_any_two_have_a_thing_in_common_there_are_half_at_most(self):
        for n in range(1, 6):
            for x in families_of_many_kinds(n):
                if any_two_have_a_thing_in_common(n, x):
                    self.assertLessEqual(2 * len(x), 2 ** n, (n, x))
                if 2 * len(x) > 2 ** n:
                    self.assertEqual(meet(n, x, x)[1], 0, (n, x))

    def test_half_of_all_sets_may_have_a_thing_in_common(self):
        for n in range(1, 6):
            for turn in range(2 ** n):
                x = as_many_as_may_meet(n, turn)
                self.assertEqual(2 * len(x), 2 ** n)
                self.assertTrue(any_two_have_a_thing_in_common(n, x), (n, x))
                self.assertNotIn(0, meet(n, x, x)[1:])
                # No set more may come to these, so that they are up.
                self.assertEqual(above(n, x), [len(x)] + x)
                for a in helper.all_sets(n):
                    if a not in x:
                        self.assertEqual(meet(n, sorted(x + [a]), sorted(x + [a]))[1], 0, (n, x, a))

    def test_pressed_down_goes_with_the_other_calls(self):
        for n in range(1, 6):
            for x in helper.few_of(helper.singles(n)):
                down = pressed(n, x)
                self.assertEqual(below(n, down[1:]), down)
                self.assertEqual(less(n, down[1:], down[1:]), down)
                self.assertEqual(meet(n, down[1:], down[1:]), down)
                self.assertEqual(shattered(n, down[1:]), down)


if __name__ == "__main__":
    unittest.main()
