import unittest

from setfamilies.families import apart, both, kind
from tests import helper


def told_by_things_and_all_others(n, x, y):
    found = [a for a in range(2 ** n) if helper.things_that_show(n, a, x, y)]
    return [len(found)] + found


def told_by_two_that_have_no_thing_in_common(n, x, y):
    """The same, by way of more: things for x and others for y, which needn't be all others."""
    found = []
    for a in range(2 ** n):
        for_x = [things for things in range(2 ** n) if helper.LIKE[n, a, things] <= set(x)]
        for_y = [things for things in range(2 ** n) if helper.LIKE[n, a, things] <= set(y)]
        if any(one & other == 0 for one in for_x for other in for_y):
            found.append(a)
    return [len(found)] + found


def common(n, x, y):
    return [len(set(x) & set(y))]


class OrdinaryFamilies(unittest.TestCase):
    def test_both_by_hand(self):
        self.assertEqual(both(3, [1, 3, 5], [3, 4, 5, 6]), [2])
        self.assertEqual(both(3, [3, 4, 5, 6], [1, 3, 5]), [2])
        self.assertEqual(both(5, [0, 31], [1, 31]), [1])
        self.assertEqual(both(2, [0, 1], [2, 3]), [0])

    def test_apart_by_hand(self):
        self.assertEqual(apart(3, [1, 3, 5, 7], [2, 3, 6, 7]), [2, 3, 7])
        self.assertEqual(apart(2, [1, 2, 3], [1, 2, 3]), [1, 3])
        self.assertEqual(apart(2, [0, 1], [0, 2]), [1, 0])
        self.assertEqual(apart(2, [1, 3], [0, 1]), [1, 1])
        self.assertEqual(apart(3, [0, 2, 4, 6, 7], [0, 1, 2, 3, 7]), [2, 0, 2])
        self.assertEqual(apart(5, [15, 31], [16, 31]), [0])

    def test_both_is_how_many_are_in_common(self):
        helper.check_answers_of_pairs(self, both, common)

    def test_apart_is_told_by_things_and_all_others(self):
        helper.check_answers_of_pairs(self, apart, told_by_things_and_all_others)

    def test_apart_is_told_by_two_that_have_no_thing_in_common(self):
        for n in range(1, 5):
            for x in helper.few_of(helper.singles(n)):
                for y in helper.few_of(helper.singles(n)):
                    self.assertEqual(apart(n, x, y), told_by_two_that_have_no_thing_in_common(n, x, y), (n, x, y))

    def test_apart_of_those_that_are_up_or_down(self):
        for n in range(1, 6):
            families = helper.few_of(helper.ups(n)) + helper.few_of(helper.downs(n))
            for x in families:
                for y in families:
                    self.assertEqual(apart(n, x, y), told_by_things_and_all_others(n, x, y), (n, x, y))

    def test_of_one_up_and_one_down_all_in_both_are_so_apart(self):
        for n in range(1, 6):
            for x in helper.few_of(helper.ups(n)):
                for y in helper.few_of(helper.downs(n)):
                    in_both = sorted(set(x) & set(y))
                    self.assertEqual(apart(n, x, y), [len(in_both)] + in_both)
                    self.assertEqual(apart(n, y, x), [len(in_both)] + in_both)

    def test_the_other_way_round(self):
        for n in range(1, 6):
            for x in helper.few_of(helper.singles(n)):
                for y in helper.few_of(helper.singles(n)):
                    self.assertEqual(both(n, x, y), both(n, y, x))
                    self.assertEqual(apart(n, x, y), apart(n, y, x))

    def test_called_by_the_names_of_the_interface(self):
        self.assertEqual(both(n=2, x=[1], y=[1, 2]), [1])
        self.assertEqual(apart(n=2, x=[0, 1], y=[0, 2]), [1, 0])

    def test_one_list_as_both(self):
        helper.check_one_list_as_both(self, both)
        helper.check_one_list_as_both(self, apart)


class Corners(unittest.TestCase):
    def test_no_sets(self):
        for n in range(1, 6):
            for call in (both, apart):
                self.assertEqual(call(n, [], []), [0])
                for x in helper.some_families(n, 10):
                    self.assertEqual(call(n, x, []), [0])
                    self.assertEqual(call(n, [], x), [0])

    def test_the_empty_set_alone(self):
        for n in range(1, 6):
            for x in helper.some_families(n, 10):
                for pair in ((x, [0]), ([0], x)):
                    self.assertEqual(both(n, *pair), [1] if 0 in x else [0])
                    self.assertEqual(apart(n, *pair), [1, 0] if len(x) == 2 ** n else [0])

    def test_all_sets(self):
        for n in range(1, 6):
            whole = helper.all_sets(n)
            for x in helper.some_families(n, 10):
                for pair in ((x, whole), (whole, x)):
                    self.assertEqual(both(n, *pair), [len(x)])
                    self.assertEqual(apart(n, *pair), [len(x)] + x)

    def test_all_sets_but_the_last(self):
        for n in range(1, 6):
            # A set lacks one thing at least for x, and another one for y.
            lacking_two = [a for a in helper.all_sets(n) if len(helper.THINGS_OF[a]) <= n - 2]
            x = helper.all_sets(n)[:-1]
            self.assertEqual(apart(n, x, x), [len(lacking_two)] + lacking_two)

    def test_a_family_and_itself(self):
        for n in range(1, 6):
            for x in helper.some_families(n, 20):
                self.assertEqual(both(n, x, list(x)), [len(x)])
                self.assertLessEqual(set(apart(n, x, list(x))[1:]), set(x))
            for a in helper.all_sets(n):
                self.assertEqual(both(n, [a], [a]), [1])
                self.assertEqual(apart(n, [a], [a]), [0])

    def test_one_that_is_up_and_down(self):
        for n in range(1, 6):
            for x in ([], helper.all_sets(n)):
                self.assertEqual(both(n, x, x), [len(x)])
                self.assertEqual(apart(n, x, x), [len(x)] + x)
            self.assertEqual(both(n, [], helper.all_sets(n)), [0])
            self.assertEqual(apart(n, [], helper.all_sets(n)), [0])

    def test_a_set_in_both_but_not_apart(self):
        self.assertEqual((both(1, [0], [0]), apart(1, [0], [0])), ([1], [0]))
        self.assertEqual((both(2, [0, 1], [0, 1]), apart(2, [0, 1], [0, 1])), ([2], [0]))
        self.assertEqual((both(2, [1, 2, 3], [1, 2, 3]), apart(2, [1, 2, 3], [1, 2, 3])), ([3], [1, 3]))
        for n in range(1, 6):
            odd = helper.all_sets(n)[1::2]
            self.assertEqual(both(n, odd, odd), [2 ** (n - 1)])
            self.assertEqual(apart(n, odd, odd), [0])

    def test_all_things_for_one_and_none_for_the_other(self):
        for n in range(1, 6):
            for a in helper.all_sets(n):
                self.assertEqual(apart(n, [a], helper.all_sets(n)), [1, a])
                self.assertEqual(apart(n, helper.all_sets(n), [a]), [1, a])

    def test_one_thing(self):
        in_both = {
            (): [[0], [0], [0], [0]],
            (0,): [[0], [1], [0], [1]],
            (1,): [[0], [0], [1], [1]],
            (0, 1): [[0], [1], [1], [2]],
        }
        so_apart = {
            (): [[0], [0], [0], [0]],
            (0,): [[0], [0], [0], [1, 0]],
            (1,): [[0], [0], [0], [1, 1]],
            (0, 1): [[0], [1, 0], [1, 1], [2, 0, 1]],
        }
        for x in in_both:
            for place, y in enumerate(([], [0], [1], [0, 1])):
                self.assertEqual(both(1, list(x), y), in_both[x][place])
                self.assertEqual(apart(1, list(x), y), so_apart[x][place])


class Refusals(unittest.TestCase):
    def test_both(self):
        helper.check_pair_refusals(self, both)

    def test_apart(self):
        helper.check_pair_refusals(self, apart)

    def test_short_lists(self):
        helper.check_short_pairs(self, both)
        helper.check_short_pairs(self, apart)


class WhatHolds(unittest.TestCase):
    def test_how_many_are_in_common(self):
        helper.check_in_common(self, kind, lambda n, x, y: both(n, x, y)[0])

    def test_apart_there_are_no_more_than_both_multiplied(self):
        for n in range(1, 6):
            for x, y in helper.pairs(n):
                so_apart = apart(n, x, y)[0]
                self.assertLessEqual(so_apart * 2 ** n, len(x) * len(y), (n, x, y))
                self.assertLessEqual(so_apart, both(n, x, y)[0], (n, x, y))


if __name__ == "__main__":
    unittest.main()
