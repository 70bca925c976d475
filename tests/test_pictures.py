"""Points 1, 2, 3 and 5 for likeshelf.pictures."""

import copy
import unittest

from likeshelf.errors import BadPicture, LikeError
from likeshelf.pictures import difference, mirrored, moved, need_picture, small, turned
from samples import KINDS, WIDE, WIDE_MOVED, even, mixed, moved_by_hand

WAYS = KINDS["all"]
SIDES = [(1, 1), (16, 16), (1, 16), (16, 1), (2, 3), (3, 2), (5, 5)]


class NeedPicture(unittest.TestCase):
    def test_takes_every_size_up_to_sixteen(self):
        for high in range(1, 17):
            for wide in range(1, 17):
                self.assertIsNone(need_picture(even(high, wide, 7)))

    def test_takes_every_cell_up_to_255(self):
        for cell in range(256):
            self.assertIsNone(need_picture([[cell]]))
        self.assertIsNone(need_picture([[0, 255], [255, 0], [128, 1]]))

    def test_refuses_what_has_no_cells(self):
        for rows in [[], [[]], [[], []], [[]] * 16]:
            with self.subTest(rows=rows), self.assertRaises(BadPicture):
                need_picture(rows)

    def test_refuses_too_many_rows_or_cells(self):
        for high, wide in [(17, 1), (1, 17), (17, 17), (16, 17), (17, 16), (40, 3)]:
            with self.subTest(high=high, wide=wide), self.assertRaises(BadPicture):
                need_picture(even(high, wide, 0))

    def test_refuses_rows_of_unlike_length(self):
        for rows in [[[1, 2], [3]], [[1], [2, 3]], [[1, 2], [3, 4], []], [[], [1]], [[1, 2], [3, 4], [5, 6, 7]]]:
            with self.subTest(rows=rows), self.assertRaises(BadPicture):
                need_picture(rows)

    def test_refuses_cells_out_of_bounds_wherever_they_are(self):
        for cell in [-1, 256, -256, 1000, 10 ** 30]:
            for row in range(3):
                for column in range(4):
                    rows = even(3, 4, 9)
                    rows[row][column] = cell
                    with self.subTest(cell=cell, row=row, column=column), self.assertRaises(BadPicture):
                        need_picture(rows)

    def test_its_refusal_is_a_like_error_and_changes_nothing(self):
        rows = [[1, 2], [3, 256]]
        with self.assertRaises(LikeError):
            need_picture(rows)
        self.assertEqual(rows, [[1, 2], [3, 256]])


class Difference(unittest.TestCase):
    def test_sums_over_all_cells(self):
        self.assertEqual(difference([[1, 2, 3], [4, 5, 6]], [[1, 4, 0], [9, 5, 5]]), 11)

    def test_counts_more_and_less_alike(self):
        self.assertEqual(difference([[0, 255]], [[255, 0]]), 510)
        self.assertEqual(difference([[10]], [[3]]), 7)
        self.assertEqual(difference([[3]], [[10]]), 7)

    def test_is_none_of_a_picture_and_itself(self):
        for high, wide in SIDES:
            rows = mixed(high, wide, 3)
            self.assertEqual(difference(rows, mixed(high, wide, 3)), 0)

    def test_greatest(self):
        self.assertEqual(difference(even(16, 16, 0), even(16, 16, 255)), 65280)

    def test_every_cell_counts(self):
        for row in range(3):
            for column in range(4):
                other = even(3, 4, 0)
                other[row][column] = 5
                self.assertEqual(difference(even(3, 4, 0), other), 5)

    def test_numbers_and_sizes_somewhat_beyond(self):
        self.assertEqual(difference([[-5, 300]], [[300, -5]]), 610)
        self.assertEqual(difference(even(17, 18, 1), even(17, 18, 2)), 306)


class Moving(unittest.TestCase):
    def test_mirrored_exchanges_left_and_right(self):
        self.assertEqual(mirrored([[1, 2, 3], [4, 5, 6]]), [[3, 2, 1], [6, 5, 4]])
        self.assertEqual(mirrored([[1], [2]]), [[1], [2]])

    def test_turned_takes_the_last_column_as_first_row(self):
        self.assertEqual(turned([[1, 2, 3], [4, 5, 6]]), [[3, 6], [2, 5], [1, 4]])
        self.assertEqual(turned([[1, 2], [3, 4], [5, 6]]), [[2, 4, 6], [1, 3, 5]])
        self.assertEqual(turned([[1, 2], [3, 4]]), [[2, 4], [1, 3]])
        self.assertEqual(turned([[1, 2, 3]]), [[3], [2], [1]])
        self.assertEqual(turned([[1], [2], [3]]), [[1, 2, 3]])

    def test_one_cell_stays_by_every_way(self):
        for way in WAYS:
            self.assertEqual(moved([[8]], way), [[8]])

    def test_each_of_the_eight_ways(self):
        for way in WAYS:
            with self.subTest(way=way):
                self.assertEqual(moved(WIDE, way), WIDE_MOVED[way])

    def test_each_way_for_each_size(self):
        for high, wide in SIDES:
            rows = mixed(high, wide, high * 31 + wide)
            for way in WAYS:
                with self.subTest(high=high, wide=wide, way=way):
                    self.assertEqual(moved(rows, way), moved_by_hand(rows, way))

    def test_the_eight_ways_tell_eight_pictures(self):
        rows = [[1, 2, 3], [4, 5, 6], [7, 8, 9]]
        told = [moved(rows, way) for way in WAYS]
        for at, picture in enumerate(told):
            self.assertNotIn(picture, told[:at])

    def test_four_turns_and_two_mirrors_give_what_was_there(self):
        for high, wide in SIDES:
            rows = mixed(high, wide, 5)
            self.assertEqual(turned(turned(turned(turned(rows)))), rows)
            self.assertEqual(mirrored(mirrored(rows)), rows)
            self.assertEqual(moved(rows, (4, 0)), rows)
            self.assertEqual(moved(rows, (5, 1)), moved(rows, (1, 1)))

    def test_pictures_somewhat_too_great_are_moved_too(self):
        rows = mixed(17, 19, 1, 999)
        self.assertEqual(mirrored(rows), moved_by_hand(rows, (0, 1)))
        self.assertEqual(turned(rows), moved_by_hand(rows, (1, 0)))

    def test_rows_without_cells_are_not_refused(self):
        for rows in [[], [[]]]:
            for way in [(0, 0), (0, 1), (2, 0)]:
                self.assertIn(moved(rows, way), [[], [[]]])
            self.assertEqual(turned(rows), [])
            self.assertEqual(mirrored(rows), rows)
            self.assertEqual(difference(rows, rows), 0)
            self.assertEqual(small(rows, 1), rows)


class Small(unittest.TestCase):
    def test_sums_of_squares(self):
        rows = [[1, 2, 3, 4], [5, 6, 7, 8]]
        self.assertEqual(small(rows, 2), [[14, 22]])
        self.assertEqual(small(rows, 1), rows)

    def test_higher_than_wide(self):
        rows = [[1, 2], [3, 4], [10, 20], [30, 40], [0, 0], [0, 5]]
        self.assertEqual(small(rows, 2), [[10], [100], [5]])

    def test_all_sizes_of_a_greater_one(self):
        rows = [[row * 6 + column for column in range(6)] for row in range(12)]
        for size in [1, 2, 3, 6]:
            want = []
            for top in range(12 // size):
                want.append([])
                for left in range(6 // size):
                    cells = [(size * top + r, size * left + c) for r in range(size) for c in range(size)]
                    want[-1].append(sum(rows[r][c] for r, c in cells))
            with self.subTest(size=size):
                self.assertEqual(small(rows, size), want)

    def test_the_whole_one_and_single_cells(self):
        self.assertEqual(small(even(16, 16, 255), 16), [[65280]])
        self.assertEqual(small([[9]], 1), [[9]])

    def test_sizes_that_do_not_divide_both_sides(self):
        cases = [(8, 12, [0, 3, 5, 6, 8, 12, 16, 17, 24]), (12, 8, [3, 6, 8, 12]), (16, 16, [0, 3, 5, 17, 32]),
                 (1, 1, [0, 2, 17]), (5, 7, [2, 5, 7, 35]), (16, 1, [2, 16])]
        for high, wide, sizes in cases:
            for size in sizes + [-1, -2, -17]:
                with self.subTest(high=high, wide=wide, size=size), self.assertRaises(BadPicture):
                    small(even(high, wide, 1), size)

    def test_rows_of_any_numbers(self):
        self.assertEqual(small([[1000, -1], [-70000, 1]], 2), [[-69000]])
        self.assertEqual(small(small(even(8, 8, 200), 2), 4), [[12800]])
        self.assertEqual(small([[-3, 300]], 1), [[-3, 300]])


class Copies(unittest.TestCase):
    def test_nothing_that_is_handed_in_is_changed(self):
        rows, other = mixed(6, 4, 8), mixed(6, 4, 9)
        before, other_before = copy.deepcopy(rows), copy.deepcopy(other)
        need_picture(rows)
        difference(rows, other)
        mirrored(rows)
        turned(rows)
        for way in WAYS:
            moved(rows, way)
        for size in [1, 2]:
            small(rows, size)
        with self.assertRaises(BadPicture):
            small(rows, 3)
        self.assertEqual(rows, before)
        self.assertEqual(other, other_before)

    def test_what_is_given_back_is_apart_from_what_was_handed_in(self):
        deeds = [mirrored, turned, lambda rows: small(rows, 1), lambda rows: small(rows, 2)]
        for way in WAYS:
            deeds.append(lambda rows, way=way: moved(rows, way))
        for at, deed in enumerate(deeds):
            with self.subTest(at=at):
                rows = mixed(4, 4, 2)
                before = copy.deepcopy(rows)
                told = deed(rows)
                again = deed(rows)
                for row in told:
                    row[0] = -1
                    row.append(-2)
                told.append([])
                self.assertEqual(rows, before)
                self.assertEqual(deed(rows), again)

    def test_the_rows_given_back_are_lists_of_their_own(self):
        for told in [turned(even(3, 3, 1)), moved(even(3, 3, 1), (2, 1)), small(even(4, 4, 1), 2)]:
            before = copy.deepcopy(told[1:])
            told[0][0] = 99
            self.assertEqual(told[1:], before)


if __name__ == "__main__":
    unittest.main()
