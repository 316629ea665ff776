import unittest

from setfamilies.families import below, less
from tests import helper


def within(n, things):
    return [other for other in helper.THINGS_OF[:2 ** n] if other.issubset(things)]


class OrdinaryFamilies(unittest.TestCase):
    def test_less_by_hand(self):
        self.assertEqual(less(3, [3, 5], [1, 6]), [3, 1, 2, 4])
        self.assertEqual(less(3, [1, 6], [3, 5]), [3, 0, 2, 4])
        self.assertEqual(less(5, [31], [1, 16, 17]), [3, 14, 15, 30])
        self.assertEqual(less(2, [1, 2], [3]), [1, 0])

    def test_below_by_hand(self):
        self.assertEqual(below(3, [5]), [4, 0, 1, 4, 5])
        self.assertEqual(below(3, [1, 6]), [5, 0, 1, 2, 4, 6])
        self.assertEqual(below(5, [16]), [2, 0, 16])
        self.assertEqual(below(4, [3, 12]), [7, 0, 1, 2, 3, 4, 8, 12])

    def test_less_is_what_one_has_and_another_hasnt(self):
        helper.check_pairs(self, less, lambda a, b: a.difference(b))

    def test_below_is_all_that_is_within(self):
        helper.check_singles(self, below, within)

    def test_called_by_the_names_of_the_interface(self):
        self.assertEqual(less(n=3, x=[3], y=[1]), [1, 2])
        self.assertEqual(below(n=3, x=[2]), [2, 0, 2])

    def test_one_list_as_both(self):
        helper.check_one_list_as_both(self, less)


class Corners(unittest.TestCase):
    def test_no_sets(self):
        for n in range(1, 6):
            self.assertEqual(below(n, []), [0])
            self.assertEqual(less(n, [], []), [0])
            for x in helper.some_families(n, 10):
                self.assertEqual(less(n, x, []), [0])
                self.assertEqual(less(n, [], x), [0])

    def test_the_empty_set_alone(self):
        for n in range(1, 6):
            self.assertEqual(below(n, [0]), [1, 0])
            for x in helper.some_families(n, 10):
                self.assertEqual(less(n, x, [0]), [len(x)] + x)
                self.assertEqual(less(n, [0], x), [1, 0] if x else [0])

    def test_all_sets(self):
        for n in range(1, 6):
            whole = helper.all_sets(n)
            self.assertEqual(below(n, whole), [2 ** n] + whole)
            self.assertEqual(below(n, [2 ** n - 1]), [2 ** n] + whole)
            self.assertEqual(less(n, whole, whole), [2 ** n] + whole)
            self.assertEqual(less(n, whole, [2 ** n - 1]), [1, 0])
            self.assertEqual(less(n, [2 ** n - 1], whole), [2 ** n] + whole)
            self.assertEqual(less(n, whole, [1]), [2 ** (n - 1)] + whole[::2])
            self.assertEqual(less(n, [1], whole), [2, 0, 1])

    def test_a_family_and_itself(self):
        for n in range(1, 6):
            for x in helper.some_families(n, 20):
                if x:
                    self.assertEqual(less(n, x, list(x))[1], 0)
            for a in helper.all_sets(n):
                self.assertEqual(less(n, [a], [a]), [1, 0])

    def test_one_that_is_up_and_down(self):
        for n in range(1, 6):
            for x in ([], helper.all_sets(n)):
                self.assertEqual(below(n, x), [len(x)] + x)
                self.assertEqual(less(n, x, x), [len(x)] + x)

    def test_one_that_is_down_stays(self):
        for n in range(1, 6):
            for x in helper.some_families(n, 40):
                down = below(n, x)
                self.assertEqual(below(n, down[1:]), down)

    def test_one_thing(self):
        lessened = {
            (): [[0], [0], [0], [0]],
            (0,): [[0], [1, 0], [1, 0], [1, 0]],
            (1,): [[0], [1, 1], [1, 0], [2, 0, 1]],
            (0, 1): [[0], [2, 0, 1], [1, 0], [2, 0, 1]],
        }
        for x in lessened:
            for place, y in enumerate(([], [0], [1], [0, 1])):
                self.assertEqual(less(1, list(x), y), lessened[x][place])
        self.assertEqual([below(1, x) for x in ([], [0], [1], [0, 1])], [[0], [1, 0], [2, 0, 1], [2, 0, 1]])


class Refusals(unittest.TestCase):
    def test_less(self):
        helper.check_pair_refusals(self, less)

    def test_below(self):
        helper.check_one_refusals(self, below)

    def test_short_lists(self):
        helper.check_short_pairs(self, less)
        helper.check_short_singles(self, below)


class WhatHolds(unittest.TestCase):
    def test_no_fewer_are_what_one_has_and_another_hasnt(self):
        for n in range(1, 6):
            for x in helper.singles(n):
                self.assertGreaterEqual(less(n, x, x)[0], len(x), (n, x))


if __name__ == "__main__":
    unittest.main()
