"""Points 1 and 16 for likeshelf.notes."""

import copy
import unittest

from likeshelf.errors import BadPicture, BadShelf, BadText, Full, LikeError, Told
from likeshelf.notes import read, written
from likeshelf.shelves import Shelf
from samples import KINDS, SQUARE_KINDS, even, full_shelf, kept_of, line_of, name_of, shelf_of, state, sundry_shelves

GOOD = ["shelf 2 3 both", "picture one", "1 2 3", "4 5 6", "picture two", "0 255 10", "100 99 7"]


def text_of(*lines):
    """The rows as a text."""
    return "\n".join(lines)


def with_row(at, line):
    """The good text with another row at a place."""
    lines = list(GOOD)
    lines[at] = line
    return text_of(*lines)


class Written(unittest.TestCase):
    def test_by_hand(self):
        shelf = shelf_of(2, 3, "both", [("one", [[1, 2, 3], [4, 5, 6]]), ("two", [[0, 255, 10], [100, 99, 7]])])
        self.assertEqual(written(shelf), "shelf 2 3 both\npicture one\n1 2 3\n4 5 6\npicture two\n0 255 10\n100 99 7")

    def test_no_picture_and_one_cell(self):
        self.assertEqual(written(Shelf(16, 1, "half")), "shelf 16 1 half")
        self.assertEqual(written(line_of(0)), "shelf 1 1 plain\npicture a\n0")

    def test_in_the_order_in_which_they_were_put(self):
        shelf = line_of(1, 2, 3)
        shelf.out("b")
        shelf.put("b", [[2]])
        self.assertEqual(written(shelf), "shelf 1 1 plain\npicture a\n1\npicture c\n3\npicture b\n2")


class Read(unittest.TestCase):
    def check(self, shelf):
        """Hold what is read of what is written against the shelf."""
        text = written(shelf)
        there = read(text)
        self.assertIs(type(there), Shelf)
        self.assertEqual(state(there), state(shelf))
        self.assertEqual(written(there), text)
        # Of the same height, width and kind: it takes just such pictures, and tells likeness alike.
        self.assertEqual(text.split("\n")[0], f"shelf {shelf.high} {shelf.wide} {shelf.kind}")
        self.assertEqual((there.high, there.wide, there.kind), (shelf.high, shelf.wide, shelf.kind))

    def test_by_hand(self):
        shelf = read(text_of(*GOOD))
        self.assertEqual(kept_of(shelf), [("one", [[1, 2, 3], [4, 5, 6]]), ("two", [[0, 255, 10], [100, 99, 7]])])
        with self.assertRaises(BadPicture):
            shelf.put("three", even(3, 2, 1))
        shelf.put("three", even(2, 3, 1))

    def test_what_is_written_is_read_to_such_a_shelf(self):
        for shelf in sundry_shelves():
            self.check(shelf)
        self.check(full_shelf())
        self.check(shelf_of(16, 16, "all", [("abcdefgh", even(16, 16, 255)), ("z", even(16, 16, 0))]))

    def test_every_size_and_kind(self):
        for high in range(1, 17):
            for wide in range(1, 17):
                for kind in KINDS:
                    if high == wide or kind not in SQUARE_KINDS:
                        self.check(Shelf(high, wide, kind))
                        self.check(shelf_of(high, wide, kind, [("a", even(high, wide, 9))]))

    def test_every_cell(self):
        shelf = read(text_of("shelf 16 16 plain", "picture a",
                             *[" ".join(str(16 * row + column) for column in range(16)) for row in range(16)]))
        self.assertEqual(shelf.picture("a"), [list(range(16 * row, 16 * row + 16)) for row in range(16)])

    def test_a_read_shelf_is_a_shelf_of_its_own(self):
        one, other = read(text_of(*GOOD)), read(text_of(*GOOD))
        one.out("one")
        one.picture("two")[0][0] = 9
        self.assertEqual(written(other), text_of(*GOOD))
        self.assertEqual(one.names(), ["two"])


class Refused(unittest.TestCase):
    def need_bad_row(self, text, row):
        """See that a text is refused with BadText for this row."""
        with self.subTest(text=text), self.assertRaises(LikeError) as caught:
            read(text)
        self.assertIs(type(caught.exception), BadText, text)
        self.assertEqual(caught.exception.row, row, text)

    def need_refused(self, text, error):
        """See that a text is refused with this error."""
        with self.subTest(text=text), self.assertRaises(error) as caught:
            read(text)
        self.assertIs(type(caught.exception), error)

    def test_first_rows_that_are_not_so_by_themselves(self):
        bad = ["", " ", "shelf", "shelf 2 3", "shelf 2 3 ", "shelf 2 3 both ", " shelf 2 3 both", "shelf  2 3 both",
               "shelf 2  3 both", "shelf 2 3  both", "shelf 2 3 both both", "shelf 2 3 4 both", "shelf 2 both",
               "Shelf 2 3 both", "shelfs 2 3 both", "picture 2 3 both", "picture one", "self 2 3 both",
               "shelf 02 3 both", "shelf 2 03 both", "shelf 00 3 both", "shelf 2 00 both", "shelf +2 3 both",
               "shelf -2 3 both", "shelf 2 -3 both", "shelf 2 +3 both", "shelf a 3 both", "shelf 2 b both",
               "shelf 2a 3 both", "shelf 100 3 both", "shelf 2 100 both", "shelf 2 3 Both", "shelf 2 3 both1",
               "shelf 2 3 7", "shelf 2 3 abcdefghi", "shelf\t2 3 both", "shelf 2 3 both\r", "shelf 2. 3 both",
               "shelf 1_0 3 both", "shelf \u0662 3 both", "shelf \u00b2 3 both", "shelf 2 \uff13 both",
               "shelf 2 3 b\u00f6th", "shelf 2 3 plain half"]
        for line in bad:
            self.need_bad_row(line, 0)
            self.need_bad_row(with_row(0, line), 0)

    def test_the_first_row_comes_ahead_of_all_others(self):
        self.need_bad_row("shelf 02 3 none\npicture A\n1", 0)
        self.need_bad_row("shelf 17 3 No\n", 0)
        self.need_bad_row("\n".join(["", *GOOD]), 0)

    def test_there_is_no_such_shelf(self):
        for first in ["shelf 0 3 both", "shelf 2 0 both", "shelf 17 3 both", "shelf 2 17 both", "shelf 99 99 plain",
                      "shelf 2 3 turn", "shelf 2 3 all", "shelf 2 3 none", "shelf 2 2 a", "shelf 2 2 abcdefgh"]:
            self.need_refused(first, BadShelf)
            self.need_refused(with_row(0, first), BadShelf)
            # Ahead of whatever is wrong with the other rows.
            self.need_refused(first + "\n", BadShelf)
            self.need_refused(text_of(first, "picture A", "x"), BadShelf)

    def test_picture_rows_that_are_not_so_by_themselves(self):
        bad = ["", " ", "picture", "picture ", " picture one", "picture  one", "picture one ", "picture one two",
               "Picture one", "pictures one", "shelf one", "one", "picture One", "picture on1", "picture abcdefghi",
               "picture 1", "1 2 3", "picture\tone", "picture one\r", "picture \u00f6ne", "pictureone",
               "shelf 2 3 both"]
        for line in bad:
            for at in [1, 4]:
                self.need_bad_row(with_row(at, line), at)

    def test_cell_rows_that_are_not_so_by_themselves(self):
        bad = ["", " ", "  ", "1 2", "1 2 3 4", "1", "1  2 3", "1 2  3", " 1 2 3", "1 2 3 ", "1 2 ", " 2 3", "01 2 3",
               "1 02 3", "1 2 00", "000 1 2", "1 2 007", "+1 2 3", "1 -2 3", "-0 2 3", "1 2 x", "a b c", "1 2 3x",
               "1000 2 3", "1 2 9999", "1 2 0255", "1,2,3", "1\t2\t3", "1 2 3\r", "1. 2 3", "1_0 2 3", "1 2 \u0663",
               "1 2 \u00b2", "picture one", "1 2 3\x0b"]
        for line in bad:
            for at in [2, 3, 5, 6]:
                self.need_bad_row(with_row(at, line), at)

    def test_one_row_and_one_cell(self):
        self.need_bad_row("shelf 1 1 plain\npicture a\n", 2)
        self.need_bad_row("shelf 1 1 plain\npicture a\n1 ", 2)
        self.need_bad_row("shelf 1 1 plain\npicture a\n1\n2", 3)
        self.need_bad_row("shelf 1 1 plain\npicture a\npicture b", 2)
        self.assertEqual(kept_of(read("shelf 1 1 plain\npicture a\n0")), [("a", [[0]])])

    def test_the_first_of_several_such_rows(self):
        lines = list(GOOD)
        for at in range(len(GOOD) - 1, 0, -1):
            lines[at] = "?"
            self.need_bad_row(text_of(*lines), at)

    def test_texts_that_are_cut(self):
        whole = [1, 4, 7]
        for many in range(1, len(GOOD) + 1):
            text = text_of(*GOOD[:many])
            if many in whole:
                self.assertEqual(len(read(text).names()), whole.index(many))
            else:
                self.need_bad_row(text, many)
        # A row that is not so comes ahead of those that are missing.
        self.need_bad_row(text_of(*GOOD[:4], "picture two", "1 2"), 5)
        self.need_bad_row(text_of(*GOOD[:4], "picture 2"), 4)

    def test_a_row_too_many(self):
        self.need_bad_row(text_of(*GOOD, ""), 7)
        self.need_bad_row(text_of(*GOOD, "1 2 3"), 7)
        self.need_bad_row("shelf 2 3 both\n", 1)
        self.need_bad_row(text_of(*GOOD[:4], "7 8 9", *GOOD[4:]), 4)
        self.need_bad_row(text_of(*GOOD[:4], "", *GOOD[4:]), 4)
        self.need_bad_row(text_of(*GOOD[:3], *GOOD[4:]), 3)

    def test_a_name_twice(self):
        self.need_refused(with_row(4, "picture one"), Told)
        self.need_bad_row(with_row(4, "picture one") + "\n", 7)
        self.need_bad_row(text_of(*GOOD[:4], "picture one"), 5)

    def test_cells_that_are_too_great(self):
        for line in ["256 0 0", "0 999 0", "0 0 256"]:
            for at in [2, 3, 5, 6]:
                self.need_refused(with_row(at, line), BadPicture)
        self.need_bad_row(text_of(*GOOD[:2], "256 0 0", "1 2"), 3)
        self.need_bad_row(text_of(*GOOD[:2], "256 0 0"), 3)

    def test_as_put_refuses_picture_by_picture(self):
        # Told comes ahead of the cells of its own picture, and behind those of the pictures before it.
        self.need_refused(text_of("shelf 1 1 plain", "picture a", "1", "picture a", "256"), Told)
        self.need_refused(text_of("shelf 1 1 plain", "picture a", "256", "picture a", "1"), BadPicture)
        self.need_refused(text_of("shelf 1 1 plain", "picture a", "1", "picture a", "1", "picture b", "256"), Told)
        self.need_refused(text_of("shelf 1 1 plain", "picture a", "1", "picture b", "256", "picture a", "1"),
                          BadPicture)

    def many(self, many):
        """The rows of a shelf of so many single cells."""
        lines = ["shelf 1 1 plain"]
        for at in range(many):
            lines += [f"picture {name_of(at)}", str(at)]
        return lines

    def test_sixty_one_pictures(self):
        self.assertEqual(len(read(text_of(*self.many(60))).names()), 60)
        self.need_refused(text_of(*self.many(61)), Full)
        self.need_refused(text_of(*self.many(70)), Full)
        lines = self.many(61)
        lines[2] = "256"
        self.need_refused(text_of(*lines), BadPicture)
        lines = self.many(61)
        lines[-1] = "256"
        self.need_refused(text_of(*lines), BadPicture)
        lines = self.many(61)
        lines[-2] = "picture aa"
        self.need_refused(text_of(*lines), Told)
        lines = self.many(62)
        lines[-1] = "256"
        self.need_refused(text_of(*lines), Full)
        lines[-1] = "x"
        self.need_bad_row(text_of(*lines), len(lines) - 1)
        self.need_bad_row(text_of(*lines[:-1]), len(lines) - 1)


class Copies(unittest.TestCase):
    def test_the_shelf_is_not_changed(self):
        shelf = full_shelf()
        before = copy.deepcopy(state(shelf))
        text = written(shelf)
        self.assertIs(type(text), str)
        self.assertEqual(state(shelf), before)
        shelf.out("aa")
        self.assertEqual(len(read(text).names()), 60)


if __name__ == "__main__":
    unittest.main()
