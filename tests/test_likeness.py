"""Points 1, 4 and 5 for likeshelf.likeness."""

import copy
import unittest

from likeshelf.likeness import apart, bounds
from likeshelf.pictures import difference, moved, small
from samples import KINDS, SQUARE_KINDS, apart_by_hand, even, mixed

ODD = [[1, 20, 3], [40, 5, 60], [7, 80, 9]]
# The way that undoes each way.
BACK = {(0, 0): (0, 0), (1, 0): (3, 0), (2, 0): (2, 0), (3, 0): (1, 0),
        (0, 1): (0, 1), (1, 1): (1, 1), (2, 1): (2, 1), (3, 1): (3, 1)}


def kinds_for(high, wide):
    """The kinds that are for pictures of such sides."""
    return [kind for kind in KINDS if high == wide or kind not in SQUARE_KINDS]


class Apart(unittest.TestCase):
    def test_plain(self):
        self.assertEqual(apart([[1, 2], [3, 4]], [[4, 2], [3, 0]], "plain"), (7, (0, 0)))
        self.assertEqual(apart([[1, 2]], [[2, 1]], "plain"), (2, (0, 0)))

    def test_half_of_one_row(self):
        self.assertEqual(apart([[1, 2, 9]], [[9, 2, 1]], "half"), (0, (2, 0)))

    def test_the_other_one_is_moved_not_the_first_one(self):
        one, other = [[1, 2], [3, 4]], [[3, 1], [4, 2]]
        self.assertEqual(apart(one, other, "turn"), (0, (1, 0)))
        self.assertEqual(apart(other, one, "turn"), (0, (3, 0)))

    def test_mirrored_comes_ahead_of_turned(self):
        other = [[1, 2, 3], [4, 5, 6], [7, 8, 9]]
        one = [[1, 4, 7], [2, 5, 8], [3, 6, 9]]
        self.assertEqual(apart(one, other, "all"), (0, (1, 1)))
        one = [[9, 6, 3], [8, 5, 2], [7, 4, 1]]
        self.assertEqual(apart(one, other, "all"), (0, (3, 1)))

    def test_each_kind_lets_just_its_ways(self):
        for kind, ways in KINDS.items():
            for way in KINDS["all"]:
                with self.subTest(kind=kind, way=way):
                    one = moved(ODD, way)
                    far, told = apart(one, ODD, kind)
                    self.assertEqual(far == 0, way in ways)
                    if way in ways:
                        self.assertEqual(told, way)
                        self.assertEqual(apart(ODD, one, kind), (0, BACK[way]))

    def test_of_as_near_ways_the_first_one(self):
        for kind in KINDS:
            self.assertEqual(apart(even(4, 4, 3), even(4, 4, 5), kind), (32, (0, 0)))
        # The same mirrored as half turned: in both and all the half turn comes first.
        upper, lower = [[1, 0, 1], [0, 0, 0]], [[0, 0, 0], [1, 0, 1]]
        self.assertEqual(apart(upper, lower, "both"), (0, (2, 0)))
        aslant, back = [[5, 0], [0, 5]], [[0, 5], [5, 0]]
        self.assertEqual(apart(aslant, back, "both"), (0, (0, 1)))
        self.assertEqual(apart(aslant, back, "turn"), (0, (1, 0)))
        self.assertEqual(apart(aslant, back, "all"), (0, (1, 0)))
        self.assertEqual(apart(aslant, back, "half"), (20, (0, 0)))

    def test_pairs_of_ways_that_are_as_near(self):
        # A picture that stays by one way of a kind is as near by two ways: the earlier one is told.
        for kind, ways in KINDS.items():
            for at, way in enumerate(ways):
                for later in ways[at + 1:]:
                    one = mixed(4, 4, 17, 9)
                    sum_of_both = moved(one, BACK[way]), moved(one, BACK[later])
                    other = [[a + b for a, b in zip(*rows)] for rows in zip(*sum_of_both)]
                    with self.subTest(kind=kind, way=way, later=later):
                        self.assertEqual(apart(one, other, kind), apart_by_hand(one, other, kind))

    def test_against_a_telling_by_hand(self):
        for high, wide in [(1, 1), (1, 2), (2, 1), (2, 2), (3, 5), (5, 3), (4, 4), (16, 16), (16, 2), (1, 16)]:
            for seed in range(6):
                one, other = mixed(high, wide, seed, 3), mixed(high, wide, seed + 50, 3)
                for kind in kinds_for(high, wide):
                    with self.subTest(high=high, wide=wide, seed=seed, kind=kind):
                        self.assertEqual(apart(one, other, kind), apart_by_hand(one, other, kind))

    def test_far_is_the_same_from_both_sides_and_a_way_of_it(self):
        for seed in range(8):
            one, other = mixed(5, 5, seed), mixed(5, 5, seed + 90)
            for kind in KINDS:
                far, way = apart(one, other, kind)
                self.assertEqual(difference(one, moved(other, way)), far)
                self.assertEqual(apart(other, one, kind)[0], far)

    def test_rows_without_cells_are_not_refused(self):
        for kind in KINDS:
            self.assertEqual(apart([], [], kind), (0, (0, 0)))
            self.assertEqual(bounds([], [], kind), [])

    def test_greatest(self):
        self.assertEqual(apart(even(16, 16, 255), even(16, 16, 0), "all"), (65280, (0, 0)))


class Bounds(unittest.TestCase):
    def sizes(self, high, wide):
        return [size for size, _ in bounds(mixed(high, wide, 1), mixed(high, wide, 2), "both")]

    def test_sizes_are_the_common_divisors_the_greatest_first(self):
        self.assertEqual(self.sizes(16, 16), [16, 8, 4, 2, 1])
        self.assertEqual(self.sizes(12, 12), [12, 6, 4, 3, 2, 1])
        self.assertEqual(self.sizes(12, 8), [4, 2, 1])
        self.assertEqual(self.sizes(8, 12), [4, 2, 1])
        self.assertEqual(self.sizes(6, 12), [6, 3, 2, 1])
        self.assertEqual(self.sizes(15, 9), [3, 1])

    def test_sides_with_one_alone_in_common(self):
        for high, wide in [(1, 1), (1, 16), (16, 1), (7, 5), (9, 16)]:
            one, other = mixed(high, wide, 1), mixed(high, wide, 2)
            self.assertEqual(bounds(one, other, "half"), [(1, apart(one, other, "half")[0])])

    def test_by_hand(self):
        one = [[1, 2, 0, 0], [3, 4, 0, 0]]
        other = [[0, 0, 4, 3], [0, 0, 2, 2]]
        self.assertEqual(bounds(one, other, "plain"), [(2, 21), (1, 21)])
        self.assertEqual(bounds(one, other, "mirror"), [(2, 1), (1, 7)])
        self.assertEqual(bounds(one, other, "half"), [(2, 1), (1, 1)])

    def test_the_small_ones_are_as_far_apart_as_told(self):
        for high, wide in [(12, 12), (16, 16), (8, 12), (12, 4), (6, 6)]:
            for seed in range(3):
                one, other = mixed(high, wide, seed), mixed(high, wide, seed + 40)
                for kind in kinds_for(high, wide):
                    for size, far in bounds(one, other, kind):
                        self.assertEqual(far, apart_by_hand(small(one, size), small(other, size), kind)[0])

    def test_none_is_greater_than_one_whose_size_divides_its_own(self):
        for high, wide in [(12, 12), (16, 16), (8, 12), (6, 12)]:
            for seed in range(4):
                one, other = mixed(high, wide, seed), mixed(high, wide, seed + 70)
                for kind in kinds_for(high, wide):
                    told = bounds(one, other, kind)
                    self.assertEqual(told[-1], (1, apart(one, other, kind)[0]))
                    for at, (size, far) in enumerate(told):
                        for less, behind in told[at + 1:]:
                            if size % less == 0:
                                self.assertLessEqual(far, behind)


class Copies(unittest.TestCase):
    def test_nothing_that_is_handed_in_is_changed(self):
        one, other = mixed(6, 6, 8), mixed(6, 6, 9)
        before, other_before = copy.deepcopy(one), copy.deepcopy(other)
        for kind in KINDS:
            apart(one, other, kind)
            bounds(one, other, kind)
        self.assertEqual(one, before)
        self.assertEqual(other, other_before)

    def test_what_is_given_back_may_be_changed(self):
        one, other = mixed(6, 6, 8), mixed(6, 6, 9)
        told = bounds(one, other, "all")
        before = list(told)
        told.clear()
        self.assertEqual(bounds(one, other, "all"), before)

    def test_kinds_of_values(self):
        told = apart([[1]], [[2]], "all")
        self.assertIs(type(told), tuple)
        self.assertIs(type(told[1]), tuple)
        told = bounds([[1]], [[2]], "all")
        self.assertIs(type(told), list)
        self.assertIs(type(told[0]), tuple)


if __name__ == "__main__":
    unittest.main()
