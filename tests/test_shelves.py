"""Points 1, 6 and 7 for likeshelf.shelves."""

import copy
import unittest

from likeshelf.errors import BadName, BadPicture, BadShelf, Full, LikeError, Told, Unknown
from likeshelf.shelves import Shelf
from samples import (KINDS, SQUARE_KINDS, even, full_shelf, line_of, mixed, name_of, shelf_of, state,
                     tree_by_hand)


class Making(unittest.TestCase):
    def test_every_size_for_the_kinds_that_leave_it(self):
        for high in range(1, 17):
            for wide in range(1, 17):
                for kind in KINDS:
                    if high == wide or kind not in SQUARE_KINDS:
                        self.assertEqual(Shelf(high, wide, kind).names(), [])
                    else:
                        with self.subTest(high=high, wide=wide, kind=kind), self.assertRaises(BadShelf):
                            Shelf(high, wide, kind)

    def test_sides_that_cannot_be(self):
        for side in [0, 17, -1, -16, 100, 10 ** 20]:
            for high, wide in [(side, 4), (4, side), (side, side)]:
                for kind in KINDS:
                    with self.subTest(high=high, wide=wide, kind=kind), self.assertRaises(BadShelf):
                        Shelf(high, wide, kind)

    def test_words_that_are_no_kind(self):
        for kind in ["", "Plain", "plain ", " plain", "quarter", "al", "alll", "HALF", "plain\n", "plain half"]:
            with self.subTest(kind=kind), self.assertRaises(BadShelf):
                Shelf(3, 3, kind)

    def test_its_refusal_is_a_like_error(self):
        with self.assertRaises(LikeError):
            Shelf(0, 0, "none")


class Putting(unittest.TestCase):
    def test_what_was_put_is_there(self):
        shelf = Shelf(2, 3, "both")
        self.assertIsNone(shelf.put("one", [[1, 2, 3], [4, 5, 6]]))
        self.assertIsNone(shelf.put("two", [[0, 255, 0], [9, 9, 9]]))
        self.assertEqual(shelf.names(), ["one", "two"])
        self.assertEqual(shelf.picture("one"), [[1, 2, 3], [4, 5, 6]])
        self.assertEqual(shelf.picture("two"), [[0, 255, 0], [9, 9, 9]])

    def test_smallest_and_greatest_pictures(self):
        for side in [1, 16]:
            shelf = Shelf(side, side, "all")
            shelf.put("a", even(side, side, 255))
            self.assertEqual(shelf.picture("a"), even(side, side, 255))

    def test_names_of_one_to_eight_letters(self):
        shelf = Shelf(1, 1, "plain")
        names = ["a", "z", "az", "abcdefgh", "zzzzzzzz", "mnopqrs"]
        for name in names:
            shelf.put(name, [[1]])
        self.assertEqual(shelf.names(), names)

    def test_bad_names(self):
        shelf = Shelf(1, 1, "plain")
        bad = ["", "abcdefghi", "A", "aB", "a1", "1", "a b", " a", "a ", "a\n", "\n", "a-b", "a_b", "`", "{",
               "\u00e4", "\u00df", "\u0430", "a\u0301", "x" * 100]
        for name in bad:
            with self.subTest(name=name), self.assertRaises(BadName):
                shelf.put(name, [[1]])
        self.assertEqual(shelf.names(), [])

    def test_a_name_that_stands_there(self):
        shelf = line_of(4)
        with self.assertRaises(Told):
            shelf.put("a", [[9]])
        self.assertEqual(shelf.picture("a"), [[4]])

    def test_bad_pictures_and_other_sizes(self):
        shelf = Shelf(2, 3, "plain")
        bad = [[], [[]], [[1, 2, 3]], [[1, 2, 3], [4, 5]], [[1, 2, 3], [4, 5, 256]], [[1, 2, -1], [4, 5, 6]],
               [[1, 2], [3, 4], [5, 6]], [[1, 2], [3, 4]], even(3, 3, 1), even(2, 2, 1), even(2, 4, 1), even(17, 3, 1),
               [[1, 2, 3], [4, 5, 6], []]]
        for rows in bad:
            with self.subTest(rows=rows), self.assertRaises(BadPicture):
                shelf.put("a", rows)
        self.assertEqual(shelf.names(), [])

    def test_the_sixty_first_and_room_again(self):
        shelf = full_shelf()
        self.assertEqual(len(shelf.names()), 60)
        with self.assertRaises(Full):
            shelf.put("late", [[1, 1]])
        shelf.out(name_of(30))
        self.assertIsNone(shelf.put("late", [[1, 1]]))
        self.assertEqual(shelf.names(), [name_of(at) for at in range(60) if at != 30] + ["late"])
        with self.assertRaises(Full):
            shelf.put(name_of(30), [[1, 1]])

    def test_two_refusals_at_once_come_in_order(self):
        shelf = full_shelf()
        there = name_of(0)
        cases = [
            (BadName, "A", [[1]]),
            (BadName, "", [[1, 1]]),
            (Told, there, []),
            (Told, there, [[1, 1]]),
            (Told, there, [[1, 256]]),
            (BadPicture, "late", [[1]]),
            (BadPicture, "late", [[1, -1]]),
            (Full, "late", [[1, 1]]),
        ]
        for error, name, rows in cases:
            with self.subTest(name=name, rows=rows), self.assertRaises(error):
                shelf.put(name, rows)
        roomy = line_of(1)
        for error, name, rows in [(BadName, "toolongname", [[256]]), (Told, "a", [[256]]), (Told, "a", [[1], [1]])]:
            with self.subTest(name=name, rows=rows), self.assertRaises(error):
                roomy.put(name, rows)

    def test_what_is_refused_changes_nothing(self):
        shelf = full_shelf()
        before = state(shelf)
        cases = [("A", [[1, 1]]), (name_of(5), [[8, 8]]), ("late", [[1]]), ("late", [[1, 1]])]
        for name, rows in cases:
            handed = copy.deepcopy(rows)
            with self.assertRaises(LikeError):
                shelf.put(name, rows)
            self.assertEqual(rows, handed)
            self.assertEqual(state(shelf), before)
        for deed in [shelf.out, shelf.picture]:
            with self.assertRaises(Unknown):
                deed("late")
            self.assertEqual(state(shelf), before)


class TakingOut(unittest.TestCase):
    def test_a_name_that_is_not_there(self):
        shelf = line_of(1, 2)
        for name in ["c", "aa", "", "A", "a ", "toolongname"]:
            for deed in [shelf.out, shelf.picture]:
                with self.subTest(name=name, deed=deed.__name__), self.assertRaises(Unknown):
                    deed(name)
        self.assertEqual(shelf.names(), ["a", "b"])

    def test_nothing_is_there_at_first(self):
        shelf = Shelf(1, 1, "plain")
        self.assertEqual(shelf.names(), [])
        for deed in [shelf.out, shelf.picture]:
            with self.assertRaises(Unknown):
                deed("a")

    def test_what_was_taken_out_is_gone(self):
        shelf = line_of(1, 2, 3)
        self.assertIsNone(shelf.out("b"))
        self.assertEqual(shelf.names(), ["a", "c"])
        for deed in [shelf.out, shelf.picture]:
            with self.assertRaises(Unknown):
                deed("b")
        self.assertEqual(shelf.picture("c"), [[3]])

    def test_a_name_put_again_comes_last(self):
        shelf = line_of(1, 2, 3)
        shelf.out("b")
        shelf.put("b", [[7]])
        self.assertEqual(shelf.names(), ["a", "c", "b"])
        self.assertEqual(shelf.picture("b"), [[7]])
        shelf.out("a")
        shelf.put("a", [[8]])
        self.assertEqual(shelf.names(), ["c", "b", "a"])

    def test_all_taken_out(self):
        shelf = line_of(1, 2)
        shelf.out("a")
        shelf.out("b")
        self.assertEqual(shelf.names(), [])
        self.assertIsNone(shelf.tree())
        shelf.put("b", [[3]])
        self.assertEqual(shelf.tree(), ("b", []))

    def test_two_shelves_have_nothing_in_common(self):
        one, other = Shelf(1, 1, "plain"), Shelf(1, 1, "plain")
        one.put("a", [[1]])
        self.assertEqual(other.names(), [])
        other.put("a", [[2]])
        self.assertEqual(one.picture("a"), [[1]])


class Trees(unittest.TestCase):
    def test_none_and_one(self):
        self.assertIsNone(Shelf(3, 3, "all").tree())
        self.assertEqual(line_of(9).tree(), ("a", []))

    def test_branches_rise_by_their_numbers(self):
        self.assertEqual(line_of(100, 130, 90, 101).tree(),
                         ("a", [(1, ("d", [])), (10, ("c", [])), (30, ("b", []))]))

    def test_several_as_far_as_each_other(self):
        self.assertEqual(line_of(10, 15, 5, 15, 5).tree(),
                         ("a", [(5, ("b", [(0, ("d", [])), (10, ("c", [(0, ("e", []))]))]))]))

    def test_pictures_that_are_alike(self):
        self.assertEqual(line_of(3, 3, 3).tree(), ("a", [(0, ("b", [(0, ("c", []))]))]))

    def test_alike_by_a_way_of_the_kind(self):
        rows, back = [[1, 2], [3, 4]], [[2, 1], [4, 3]]
        numbers = {"plain": 4, "half": 4, "turn": 2, "mirror": 0, "both": 0, "all": 0}
        for kind, number in numbers.items():
            shelf = Shelf(2, 2, kind)
            shelf.put("a", rows)
            shelf.put("b", back)
            with self.subTest(kind=kind):
                self.assertEqual(shelf.tree(), ("a", [(number, ("b", []))]))

    def test_all_as_far_from_one_another(self):
        shelf = Shelf(1, 3, "plain")
        for name, rows in [("a", [[9, 0, 0]]), ("b", [[0, 9, 0]]), ("c", [[0, 0, 9]])]:
            shelf.put(name, rows)
        self.assertEqual(shelf.tree(), ("a", [(18, ("b", [(18, ("c", []))]))]))

    def test_after_some_were_taken_out_and_put_again(self):
        shelf = line_of(10, 12, 20, 8)
        self.assertEqual(shelf.tree(), ("a", [(2, ("b", [(4, ("d", []))])), (10, ("c", []))]))
        shelf.out("b")
        self.assertEqual(shelf.tree(), ("a", [(2, ("d", [])), (10, ("c", []))]))
        shelf.put("b", [[12]])
        self.assertEqual(shelf.tree(), ("a", [(2, ("d", [(4, ("b", []))])), (10, ("c", []))]))
        shelf.out("a")
        self.assertEqual(shelf.tree(), ("c", [(8, ("b", [])), (12, ("d", []))]))
        shelf.put("a", [[10]])
        self.assertEqual(shelf.tree(), ("c", [(8, ("b", [])), (10, ("a", [])), (12, ("d", []))]))

    def test_against_a_telling_by_hand(self):
        for high, wide in [(2, 2), (3, 2), (1, 4)]:
            for kind in KINDS:
                if high != wide and kind in SQUARE_KINDS:
                    continue
                kept = [(name_of(at), mixed(high, wide, at, 2)) for at in range(40)]
                shelf = shelf_of(high, wide, kind, kept)
                self.assertEqual(shelf.tree(), tree_by_hand(kept, kind))
                for at in [0, 7, 12]:
                    name, rows = kept.pop(at)
                    shelf.out(name)
                    self.assertEqual(shelf.tree(), tree_by_hand(kept, kind))
                    kept.append((name, rows))
                    shelf.put(name, rows)
                    self.assertEqual(shelf.names(), [told for told, _ in kept])
                    self.assertEqual(shelf.tree(), tree_by_hand(kept, kind))

    def test_sixty_alike_hang_in_one_chain(self):
        shelf = Shelf(1, 1, "all")
        for number in range(60):
            shelf.put(name_of(number), [[5]])
        told = shelf.tree()
        for number in range(59):
            self.assertEqual(told[0], name_of(number))
            self.assertEqual([far for far, _ in told[1]], [0])
            told = told[1][0][1]
        self.assertEqual(told, (name_of(59), []))


class Copies(unittest.TestCase):
    def test_what_was_put_may_be_changed(self):
        rows = [[1, 2], [3, 4]]
        shelf = Shelf(2, 2, "all")
        shelf.put("a", rows)
        rows[0][0] = 99
        rows[1] = [7, 7]
        rows.append([])
        self.assertEqual(shelf.picture("a"), [[1, 2], [3, 4]])

    def test_the_same_rows_put_twice_are_two_pictures(self):
        row = [1, 2]
        shelf = Shelf(2, 2, "plain")
        shelf.put("a", [row, row])
        told = shelf.picture("a")
        told[0][0] = 50
        self.assertEqual(told, [[50, 2], [1, 2]])

    def test_what_is_given_back_may_be_changed(self):
        shelf = line_of(10, 12, 20)
        before = copy.deepcopy(state(shelf))
        picture = shelf.picture("a")
        picture[0][0] = 77
        picture.append([1])
        shelf.names().append("new")
        shelf.names().clear()
        tree = shelf.tree()
        tree[1][0][1][1].append("new")
        tree[1].clear()
        self.assertEqual(state(shelf), before)

    def test_what_was_given_back_stays_when_the_shelf_changes(self):
        shelf = line_of(10, 12)
        names, picture, tree = shelf.names(), shelf.picture("a"), shelf.tree()
        shelf.out("a")
        shelf.put("c", [[1]])
        shelf.put("a", [[2]])
        self.assertEqual(names, ["a", "b"])
        self.assertEqual(picture, [[10]])
        self.assertEqual(tree, ("a", [(2, ("b", []))]))

    def test_kinds_of_values(self):
        shelf = line_of(10, 12)
        self.assertIs(type(shelf.names()), list)
        self.assertIs(type(shelf.picture("a")), list)
        told = shelf.tree()
        self.assertIs(type(told), tuple)
        self.assertIs(type(told[1]), list)
        self.assertIs(type(told[1][0]), tuple)
        self.assertIs(type(told[1][0][1]), tuple)


if __name__ == "__main__":
    unittest.main()
