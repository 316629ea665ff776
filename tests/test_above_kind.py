import unittest

from setfamilies.families import above, below, kind
from tests import helper


def around(n, things):
    return [other for other in helper.THINGS_OF[:2 ** n] if other.issuperset(things)]


def is_up(n, x):
    """Whether with each set the family has it with any one thing more."""
    return all(a | 1 << v in x for a in x for v in range(n))


def is_down(n, x):
    """Whether with each set the family has it with any one thing taken out."""
    return all(a & ~(1 << v) in x for a in x for v in range(n))


def kind_thing_by_thing(n, x):
    return [(1 if is_up(n, x) else 0) + (2 if is_down(n, x) else 0)]


class OrdinaryFamilies(unittest.TestCase):
    def test_above_by_hand(self):
        self.assertEqual(above(3, [5]), [2, 5, 7])
        self.assertEqual(above(3, [1, 6]), [5, 1, 3, 5, 6, 7])
        self.assertEqual(above(5, [15]), [2, 15, 31])
        self.assertEqual(above(4, [3, 12]), [7, 3, 7, 11, 12, 13, 14, 15])

    def test_kind_by_hand(self):
        self.assertEqual(kind(3, [5]), [0])
        self.assertEqual(kind(3, [5, 7]), [1])
        self.assertEqual(kind(3, [0, 1, 4, 5]), [2])
        self.assertEqual(kind(3, [0, 1, 2, 3, 4, 5, 6, 7]), [3])
        self.assertEqual(kind(3, [0, 7]), [0])
        self.assertEqual(kind(4, [3, 7, 11, 12, 13, 14, 15]), [1])
        self.assertEqual(kind(4, [3, 7, 11, 12, 13, 14]), [0])
        self.assertEqual(kind(4, [0, 1, 2, 3, 4, 8, 12]), [2])
        self.assertEqual(kind(4, [0, 1, 2, 3, 4, 12]), [0])

    def test_above_is_all_that_it_is_within(self):
        helper.check_singles(self, above, around)

    def test_kind_is_told_thing_by_thing(self):
        helper.check_answers_of_singles(self, kind, kind_thing_by_thing)

    def test_all_that_are_up(self):
        for n in range(1, 6):
            for x in helper.ups(n):
                self.assertEqual(kind(n, x), [1] if 0 < len(x) < 2 ** n else [3], (n, x))

    def test_all_that_are_down(self):
        for n in range(1, 6):
            for x in helper.downs(n):
                self.assertEqual(kind(n, x), [2] if 0 < len(x) < 2 ** n else [3], (n, x))

    def test_one_set_off_a_kind(self):
        for n in range(2, 6):
            for x in helper.some_of(helper.ups(n)) + helper.some_of(helper.downs(n)):
                for a in helper.all_sets(n):
                    changed = sorted(set(x) ^ {a})
                    self.assertEqual(kind(n, changed), kind_thing_by_thing(n, changed), (n, changed))

    def test_called_by_the_names_of_the_interface(self):
        self.assertEqual(above(n=3, x=[6]), [2, 6, 7])
        self.assertEqual(kind(n=3, x=[6, 7]), [1])


class Corners(unittest.TestCase):
    def test_no_sets(self):
        for n in range(1, 6):
            self.assertEqual(above(n, []), [0])
            self.assertEqual(kind(n, []), [3])

    def test_the_empty_set_alone(self):
        for n in range(1, 6):
            self.assertEqual(above(n, [0]), [2 ** n] + helper.all_sets(n))
            self.assertEqual(kind(n, [0]), [2])

    def test_all_sets(self):
        for n in range(1, 6):
            whole = helper.all_sets(n)
            self.assertEqual(above(n, whole), [2 ** n] + whole)
            self.assertEqual(above(n, [2 ** n - 1]), [1, 2 ** n - 1])
            self.assertEqual(above(n, [1]), [2 ** (n - 1)] + whole[1::2])
            self.assertEqual(kind(n, whole), [3])
            self.assertEqual(kind(n, [2 ** n - 1]), [1])

    def test_all_sets_but_one(self):
        for n in range(1, 6):
            whole = helper.all_sets(n)
            self.assertEqual(kind(n, whole[1:]), [1])
            self.assertEqual(kind(n, whole[:-1]), [2])
            for place in range(1, len(whole) - 1):
                self.assertEqual(kind(n, whole[:place] + whole[place + 1:]), [0])

    def test_one_that_is_up_and_down(self):
        for n in range(1, 6):
            for x in ([], helper.all_sets(n)):
                self.assertEqual(above(n, x), [len(x)] + x)
                self.assertEqual(kind(n, x), [3])
            for x in helper.singles(n):
                if kind(n, x) == [3]:
                    self.assertIn(x, ([], helper.all_sets(n)))

    def test_one_that_is_up_stays(self):
        for n in range(1, 6):
            for x in helper.some_families(n, 40):
                up = above(n, x)
                self.assertEqual(above(n, up[1:]), up)
                self.assertIn(kind(n, up[1:]), ([1], [3]))
                self.assertIn(kind(n, below(n, x)[1:]), ([2], [3]))

    def test_one_thing(self):
        self.assertEqual([above(1, x) for x in ([], [0], [1], [0, 1])], [[0], [2, 0, 1], [1, 1], [2, 0, 1]])
        self.assertEqual([kind(1, x) for x in ([], [0], [1], [0, 1])], [[3], [2], [1], [3]])


class Refusals(unittest.TestCase):
    def test_above(self):
        helper.check_one_refusals(self, above)

    def test_kind(self):
        helper.check_one_refusals(self, kind)

    def test_short_lists(self):
        helper.check_short_singles(self, above)
        helper.check_short_singles(self, kind)


class WhatHolds(unittest.TestCase):
    def test_how_many_are_in_common(self):
        helper.check_in_common(self, kind, lambda n, x, y: len(set(x) & set(y)))


if __name__ == "__main__":
    unittest.main()
