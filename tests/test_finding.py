"""Points 1, 2 and 15 for likeshelf.finding."""

import copy
import unittest

from likeshelf.errors import BadPicture, LikeError
from likeshelf.finding import places, sums
from samples import even, mixed

ROWS = [[1, 2, 3], [4, 5, 6]]


def sums_by_hand(rows):
    """The sums at all corners, each added up from all its cells."""
    high, wide = len(rows), len(rows[0])
    return [[sum(rows[r][c] for r in range(row) for c in range(column)) for column in range(wide + 1)]
            for row in range(high + 1)]


def places_by_hand(rows, little, span):
    """(found, passed), told without the program."""
    high, wide = len(little), len(little[0])
    found, passed = [], []
    for row in range(len(rows) - high + 1):
        for column in range(len(rows[0]) - wide + 1):
            cells = [(rows[row + r][column + c], little[r][c]) for r in range(high) for c in range(wide)]
            far = sum(abs(one - other) for one, other in cells)
            bound = abs(sum(one - other for one, other in cells))
            if far <= span:
                found.append((row, column, far))
            if bound > span:
                passed.append((row, column, bound))
    return found, passed


class Sums(unittest.TestCase):
    def test_by_hand(self):
        self.assertEqual(sums(ROWS), [[0, 0, 0, 0], [0, 1, 3, 6], [0, 5, 12, 21]])
        self.assertEqual(sums([[9]]), [[0, 0], [0, 9]])
        self.assertEqual(sums([[1, 2, 3]]), [[0, 0, 0, 0], [0, 1, 3, 6]])
        self.assertEqual(sums([[1], [2], [3]]), [[0, 0], [0, 1], [0, 3], [0, 6]])

    def test_every_size(self):
        for high, wide in [(1, 1), (1, 16), (16, 1), (2, 3), (3, 2), (7, 5)]:
            for seed in range(3):
                rows = mixed(high, wide, seed)
                self.assertEqual(sums(rows), sums_by_hand(rows))

    def test_the_greatest(self):
        self.assertEqual(sums(even(16, 16, 255))[16][16], 65280)
        self.assertEqual(sums(even(16, 16, 255)), sums_by_hand(even(16, 16, 255)))

    def test_numbers_and_sizes_somewhat_beyond(self):
        self.assertEqual(sums([[-1, 300], [256, -5]]), [[0, 0, 0], [0, -1, 299], [0, 255, 550]])
        self.assertEqual(sums(even(17, 18, 1))[17][18], 306)
        self.assertEqual(sums([]), [[0]])
        self.assertEqual(sums([[]]), [[0], [0]])


class Places(unittest.TestCase):
    def test_by_hand(self):
        self.assertEqual(places(ROWS, [[5]], 1), ([(1, 0, 1), (1, 1, 0), (1, 2, 1)],
                                                  [(0, 0, 4), (0, 1, 3), (0, 2, 2)]))
        self.assertEqual(places(ROWS, [[2, 3], [5, 6]], 0), ([(0, 1, 0)], [(0, 0, 4)]))
        self.assertEqual(places(ROWS, [[2, 3], [5, 6]], 4), ([(0, 0, 4), (0, 1, 0)], []))
        self.assertEqual(places(ROWS, [[2, 3], [5, 6]], 3), ([(0, 1, 0)], [(0, 0, 4)]))

    def test_a_place_may_be_neither_found_nor_passed_by(self):
        # The sums are alike, the cells are not.
        self.assertEqual(places([[1, 2, 1]], [[2, 1]], 1), ([(0, 1, 0)], []))
        self.assertEqual(places([[1, 2, 1]], [[2, 1]], 2), ([(0, 0, 2), (0, 1, 0)], []))

    def test_in_the_order_of_reading(self):
        found, passed = places(even(3, 4, 7), [[7, 7], [7, 7]], 0)
        self.assertEqual(found, [(row, column, 0) for row in range(2) for column in range(3)])
        self.assertEqual(passed, [])
        found, passed = places(even(3, 4, 7), [[9], [9]], 3)
        self.assertEqual(found, [])
        self.assertEqual(passed, [(row, column, 4) for row in range(2) for column in range(4)])

    def test_no_way_moves_the_little_one(self):
        self.assertEqual(places([[1, 2], [3, 4]], [[2, 1], [4, 3]], 3), ([], []))
        self.assertEqual(places([[1, 2], [3, 4]], [[2, 1], [4, 3]], 4), ([(0, 0, 4)], []))

    def test_as_great_as_the_picture(self):
        self.assertEqual(places(ROWS, [[1, 2, 3], [4, 5, 9]], 3), ([(0, 0, 3)], []))
        self.assertEqual(places(ROWS, [[1, 2, 3], [4, 5, 9]], 2), ([], [(0, 0, 3)]))
        self.assertEqual(places([[5]], [[5]], 0), ([(0, 0, 0)], []))

    def test_as_high_or_as_wide(self):
        self.assertEqual(places(ROWS, [[3], [6]], 0), ([(0, 2, 0)], [(0, 0, 4), (0, 1, 2)]))
        self.assertEqual(places(ROWS, [[4, 5, 6]], 0), ([(1, 0, 0)], [(0, 0, 9)]))

    def test_higher_or_wider(self):
        for little in [even(3, 1, 1), even(1, 4, 1), even(3, 4, 1), even(3, 3, 1), even(2, 4, 1), even(16, 16, 1)]:
            with self.subTest(little=little), self.assertRaises(BadPicture):
                places(ROWS, little, 65280)

    def test_what_is_no_picture(self):
        bad = [[], [[]], [[], []], [[1, 2], [3]], [[1], [2, 3]], [[256]], [[-1]], [[1, 2], [3, 999]], even(17, 1, 1),
               even(1, 17, 1), even(17, 17, 1)]
        great = even(16, 16, 1)
        for rows in bad:
            for one, other in [(great, rows), (rows, [[1]]), (rows, rows), (rows, great)]:
                before = copy.deepcopy((one, other))
                with self.subTest(rows=rows), self.assertRaises(BadPicture):
                    places(one, other, 65280)
                self.assertEqual((one, other), before)
        with self.assertRaises(LikeError):
            places([], [], 0)

    def test_spans(self):
        rows, little = [[0, 255], [128, 1]], [[0]]
        self.assertEqual(places(rows, little, 0), ([(0, 0, 0)], [(0, 1, 255), (1, 0, 128), (1, 1, 1)]))
        self.assertEqual(places(rows, little, 127), ([(0, 0, 0), (1, 1, 1)], [(0, 1, 255), (1, 0, 128)]))
        self.assertEqual(places(rows, little, 128), ([(0, 0, 0), (1, 0, 128), (1, 1, 1)], [(0, 1, 255)]))
        self.assertEqual(places(rows, little, 65280)[1], [])
        self.assertEqual(places(even(16, 16, 255), even(16, 16, 0), 65279), ([], [(0, 0, 65280)]))
        self.assertEqual(places(even(16, 16, 255), even(16, 16, 0), 65280), ([(0, 0, 65280)], []))
        self.assertEqual(places([[5]], [[5]], -1), ([], [(0, 0, 0)]))

    def test_held_against_looking_at_every_place(self):
        sizes = [(1, 1, 1, 1), (5, 7, 2, 3), (7, 5, 3, 2), (6, 6, 6, 6), (16, 16, 4, 5), (4, 9, 4, 2), (9, 4, 2, 4)]
        neither = 0
        for high, wide, little_high, little_wide in sizes:
            for seed in range(4):
                for most in [1, 5, 255]:
                    rows, little = mixed(high, wide, seed, most), mixed(little_high, little_wide, seed + 30, most)
                    every = places_by_hand(rows, little, 65280)[0]
                    for span in sorted({0, 1, 2, 7, 65280} | {far for _, _, far in every[:3]}):
                        told = places_by_hand(rows, little, span)
                        self.assertEqual(places(rows, little, span), told)
                        neither += len(every) - len(told[0]) - len(told[1])
        self.assertGreater(neither, 0)


class Copies(unittest.TestCase):
    def test_nothing_that_is_handed_in_is_changed(self):
        rows, little = mixed(5, 6, 1), mixed(2, 2, 2)
        before = copy.deepcopy((rows, little))
        sums(rows)
        places(rows, little, 300)
        self.assertEqual((rows, little), before)

    def test_what_is_given_back_may_be_changed(self):
        rows = mixed(5, 6, 1)
        before = copy.deepcopy(rows)
        told = sums(rows)
        again = copy.deepcopy(told)
        for line in told:
            line[0] = -1
            line.append(-2)
        self.assertEqual(rows, before)
        self.assertEqual(sums(rows), again)
        found, passed = places(rows, [[100]], 50)
        again = list(found), list(passed)
        found.append("new")
        passed.clear()
        self.assertEqual(places(rows, [[100]], 50), again)

    def test_the_lists_of_one_answer_are_apart_from_each_other(self):
        told = sums(even(3, 3, 0))
        told[0][0] = 99
        self.assertEqual(told[1:], [[0, 0, 0, 0]] * 3)
        found, passed = places([[1]], [[3]], 2)
        found.append("new")
        self.assertEqual(passed, [])

    def test_kinds_of_values(self):
        told = sums(ROWS)
        self.assertEqual([type(told)] + [type(line) for line in told], [list] * 4)
        told = places(ROWS, [[5]], 1)
        self.assertEqual([type(told), type(told[0]), type(told[1])], [tuple, list, list])
        self.assertEqual({type(place) for place in told[0] + told[1]}, {tuple})


if __name__ == "__main__":
    unittest.main()
