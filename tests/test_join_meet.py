import unittest

from setfamilies.families import join, meet
from tests import helper


class OrdinaryFamilies(unittest.TestCase):
    def test_join_by_hand(self):
        self.assertEqual(join(3, [1, 2], [4, 6]), [3, 5, 6, 7])
        self.assertEqual(join(3, [1, 2, 4], [1, 2, 4]), [6, 1, 2, 3, 4, 5, 6])
        self.assertEqual(join(5, [1, 16], [8]), [2, 9, 24])
        self.assertEqual(join(2, [3], [0, 1, 2, 3]), [1, 3])

    def test_meet_by_hand(self):
        self.assertEqual(meet(3, [3, 5], [6]), [2, 2, 4])
        self.assertEqual(meet(3, [3, 5, 6], [3, 5, 6]), [6, 1, 2, 3, 4, 5, 6])
        self.assertEqual(meet(5, [17, 30], [24]), [2, 16, 24])
        self.assertEqual(meet(2, [3], [0, 1, 2, 3]), [4, 0, 1, 2, 3])

    def test_join_is_what_either_has(self):
        helper.check_pairs(self, join, lambda a, b: a.union(b))

    def test_meet_is_what_both_have(self):
        helper.check_pairs(self, meet, lambda a, b: a.intersection(b))

    def test_called_by_the_names_of_the_interface(self):
        self.assertEqual(join(n=3, x=[1], y=[2]), [1, 3])
        self.assertEqual(meet(n=3, x=[1], y=[3]), [1, 1])

    def test_one_list_as_both(self):
        helper.check_one_list_as_both(self, join)
        helper.check_one_list_as_both(self, meet)


class Corners(unittest.TestCase):
    def test_no_sets(self):
        for n in range(1, 6):
            for call in (join, meet):
                self.assertEqual(call(n, [], []), [0])
                for x in helper.some_families(n, 10):
                    self.assertEqual(call(n, x, []), [0])
                    self.assertEqual(call(n, [], x), [0])

    def test_the_empty_set_alone(self):
        for n in range(1, 6):
            for x in helper.some_families(n, 10):
                self.assertEqual(join(n, [0], x), [len(x)] + x)
                self.assertEqual(join(n, x, [0]), [len(x)] + x)
                self.assertEqual(meet(n, [0], x), [1, 0] if x else [0])
                self.assertEqual(meet(n, x, [0]), [1, 0] if x else [0])

    def test_all_sets(self):
        for n in range(1, 6):
            whole = helper.all_sets(n)
            for call in (join, meet):
                self.assertEqual(call(n, whole, whole), [2 ** n] + whole)
            self.assertEqual(join(n, whole, [2 ** n - 1]), [1, 2 ** n - 1])
            self.assertEqual(meet(n, whole, [2 ** n - 1]), [2 ** n] + whole)
            self.assertEqual(join(n, [1], whole), [2 ** (n - 1)] + whole[1::2])
            self.assertEqual(meet(n, [1], whole), [2, 0, 1])

    def test_a_family_and_itself(self):
        for n in range(1, 6):
            for x in helper.some_families(n, 20):
                for call in (join, meet):
                    answer = call(n, x, list(x))
                    self.assertLessEqual(set(x), set(answer[1:]))
                    self.assertEqual(answer[0], len(answer) - 1)
            for a in helper.all_sets(n):
                self.assertEqual(join(n, [a], [a]), [1, a])
                self.assertEqual(meet(n, [a], [a]), [1, a])

    def test_one_thing(self):
        joined = {
            (): [[0], [0], [0], [0]],
            (0,): [[0], [1, 0], [1, 1], [2, 0, 1]],
            (1,): [[0], [1, 1], [1, 1], [1, 1]],
            (0, 1): [[0], [2, 0, 1], [1, 1], [2, 0, 1]],
        }
        met = {
            (): [[0], [0], [0], [0]],
            (0,): [[0], [1, 0], [1, 0], [1, 0]],
            (1,): [[0], [1, 0], [1, 1], [2, 0, 1]],
            (0, 1): [[0], [1, 0], [2, 0, 1], [2, 0, 1]],
        }
        for x in joined:
            for place, y in enumerate(([], [0], [1], [0, 1])):
                self.assertEqual(join(1, list(x), y), joined[x][place])
                self.assertEqual(meet(1, list(x), y), met[x][place])


class Refusals(unittest.TestCase):
    def test_join(self):
        helper.check_pair_refusals(self, join)

    def test_meet(self):
        helper.check_pair_refusals(self, meet)

    def test_short_lists(self):
        helper.check_short_pairs(self, join)
        helper.check_short_pairs(self, meet)


class WhatHolds(unittest.TestCase):
    def test_both_multiplied_are_no_more_than_joined_times_met(self):
        for n in range(1, 6):
            for x, y in helper.pairs(n):
                self.assertLessEqual(len(x) * len(y), join(n, x, y)[0] * meet(n, x, y)[0], (n, x, y))


if __name__ == "__main__":
    unittest.main()
