"""Points 1, 2, 8, 9, 10 and 11 for likeshelf.asking."""

import copy
import unittest

from likeshelf.asking import nearest, sieve, within
from likeshelf.errors import BadPicture, LikeError
from likeshelf.shelves import Shelf
from samples import (KINDS, apart_by_hand, empty, even, found_by_hand, full_shelf, kept_of, line_of, mixed, name_of,
                     shelf_of, state, sundry_shelves)

# On the 100 hang 101 and 99 in one branch, 90 and 110 in another, and 160 in a third one.
LINE = (100, 90, 110, 101, 160, 99)


def asked_of(shelf):
    """Some pictures to ask of a shelf, one that stands there among them."""
    high, wide = shelf.high, shelf.wide
    most = max(cell for _, rows in kept_of(shelf) for row in rows for cell in row)
    return [mixed(high, wide, 7, most), mixed(high, wide, 1007, most), even(high, wide, 0), even(high, wide, 255)]


def branches_by_hand(hung, fars, bound=0):
    """Each branch of a tree, (name, number): its bound and all names in it."""
    told = {}
    name, branches = hung
    for number, behind in branches:
        behind_bound = max(bound, abs(number - fars[name]))
        told[name, number] = (behind_bound, names_by_hand(behind))
        told.update(branches_by_hand(behind, fars, behind_bound))
    return told


def names_by_hand(hung):
    """All names in a tree."""
    return [hung[0]] + [name for _, behind in hung[1] for name in names_by_hand(behind)]


def walk_by_hand(hung, fars, span):
    """(looked, passed) of within, told without the program."""
    name, branches = hung
    looked, passed = [(name, fars[name])], []
    for number, behind in branches:
        if -span <= number - fars[name] <= span:
            more_looked, more_passed = walk_by_hand(behind, fars, span)
            looked, passed = looked + more_looked, passed + more_passed
        else:
            passed.append((name, number))
    return looked, passed


class BadPictures(unittest.TestCase):
    def shelves(self):
        return [Shelf(2, 3, "both"), shelf_of(2, 3, "both", [("a", [[1, 2, 3], [4, 5, 6]])])]

    def test_what_is_none_of_the_size_of_the_shelf(self):
        bad = [[], [[]], [[], []], [[1, 2, 3]], [[1, 2, 3], [4, 5]], [[1, 2, 3], [4, 5, 256]], [[1, 2, -1], [4, 5, 6]],
               [[1, 2], [3, 4], [5, 6]], even(3, 3, 1), even(2, 2, 1), even(2, 4, 1), even(1, 3, 1), even(17, 3, 1),
               [[1, 2, 3], [4, 5, 6], []]]
        for shelf in self.shelves():
            for rows in bad:
                for deed in [lambda: within(shelf, rows, 5), lambda: nearest(shelf, rows, 5),
                             lambda: sieve(shelf, rows, 5, 1)]:
                    before = copy.deepcopy(rows), state(shelf)
                    with self.subTest(rows=rows, names=shelf.names()), self.assertRaises(BadPicture):
                        deed()
                    self.assertEqual((rows, state(shelf)), before)

    def test_sizes_of_squares_that_do_not_divide(self):
        for high, wide, sizes in [(2, 3, [2, 3, 6]), (4, 8, [3, 8, 5, 16]), (6, 6, [4, 5, 12]), (1, 1, [2])]:
            for shelf in [Shelf(high, wide, "half"), shelf_of(high, wide, "half", [("a", even(high, wide, 1))])]:
                for size in sizes + [0, -1, 17]:
                    with self.subTest(high=high, wide=wide, size=size), self.assertRaises(BadPicture):
                        sieve(shelf, even(high, wide, 1), 65280, size)

    def test_a_bad_picture_and_a_bad_size_at_once(self):
        for shelf in self.shelves():
            for size in [0, 2, 5]:
                with self.assertRaises(LikeError) as caught:
                    sieve(shelf, [[1, 2, 3]], 5, size)
                with self.assertRaises(LikeError) as alone:
                    within(shelf, [[1, 2, 3]], 5)
                self.assertIs(type(caught.exception), BadPicture)
                # The refusal of the asked picture, not that of the size.
                self.assertEqual(str(caught.exception), str(alone.exception))


class Within(unittest.TestCase):
    def test_by_hand(self):
        shelf = line_of(*LINE)
        self.assertEqual(shelf.tree(), ("a", [(1, ("d", [(2, ("f", []))])), (10, ("b", [(20, ("c", []))])),
                                              (60, ("e", []))]))
        plain = (0, 0)
        self.assertEqual(within(shelf, [[100]], 0), ([("a", 0, plain)], [("a", 0)], [("a", 1), ("a", 10), ("a", 60)]))
        self.assertEqual(within(shelf, [[100]], 1), ([("a", 0, plain), ("d", 1, plain), ("f", 1, plain)],
                                                     [("a", 0), ("d", 1), ("f", 1)], [("a", 10), ("a", 60)]))
        self.assertEqual(within(shelf, [[102]], 1), ([("d", 1, plain)], [("a", 2), ("d", 1), ("f", 3)],
                                                     [("a", 10), ("a", 60)]))

    def test_passed_by_comes_where_it_is_met(self):
        # The branch that is gone into lies between two that are passed by.
        shelf = line_of(*LINE)
        self.assertEqual(within(shelf, [[112]], 2), ([("c", 2, (0, 0))], [("a", 12), ("b", 22), ("c", 2)],
                                                     [("a", 1), ("a", 60)]))
        self.assertEqual(within(shelf, [[89]], 10), ([("b", 1, (0, 0)), ("f", 10, (0, 0))],
                                                     [("a", 11), ("d", 12), ("f", 10), ("b", 1)],
                                                     [("b", 20), ("a", 60)]))

    def test_spans_just_at_a_difference(self):
        shelf = line_of(100, 130)
        self.assertEqual(within(shelf, [[140]], 9), ([], [("a", 40)], [("a", 30)]))
        self.assertEqual(within(shelf, [[140]], 10), ([("b", 10, (0, 0))], [("a", 40), ("b", 10)], []))
        self.assertEqual(within(shelf, [[140]], 39)[0], [("b", 10, (0, 0))])
        self.assertEqual(within(shelf, [[140]], 40)[0], [("b", 10, (0, 0)), ("a", 40, (0, 0))])
        self.assertEqual(within(shelf, [[110]], 9), ([], [("a", 10)], [("a", 30)]))
        self.assertEqual(within(shelf, [[110]], 20)[0], [("a", 10, (0, 0)), ("b", 20, (0, 0))])

    def test_no_picture_and_one(self):
        shelf = Shelf(2, 2, "all")
        for span in [0, 5, 65280]:
            self.assertEqual(within(shelf, [[1, 2], [3, 4]], span), ([], [], []))
        shelf.put("one", [[1, 2], [3, 4]])
        self.assertEqual(within(shelf, [[2, 4], [1, 3]], 0), ([("one", 0, (1, 0))], [("one", 0)], []))
        self.assertEqual(within(shelf, [[2, 4], [1, 5]], 1), ([], [("one", 2)], []))
        self.assertEqual(within(shelf, [[2, 4], [1, 5]], 2), ([("one", 2, (1, 0))], [("one", 2)], []))

    def test_the_way_moves_the_kept_one_not_the_asked_one(self):
        shelf = shelf_of(2, 2, "turn", [("a", [[1, 2], [3, 4]])])
        self.assertEqual(within(shelf, [[2, 4], [1, 3]], 0)[0], [("a", 0, (1, 0))])
        self.assertEqual(within(shelf, [[3, 1], [4, 2]], 0)[0], [("a", 0, (3, 0))])

    def test_as_near_ones_in_the_order_in_which_they_were_put(self):
        shelf = line_of(12, 8, 12, 10, 8)
        self.assertEqual([name for name, _, _ in within(shelf, [[10]], 2)[0]], ["d", "a", "b", "c", "e"])
        shelf.out("a")
        shelf.put("a", [[8]])
        self.assertEqual([name for name, _, _ in within(shelf, [[10]], 2)[0]], ["d", "b", "c", "e", "a"])
        shelf.out("e")
        shelf.put("e", [[10]])
        self.assertEqual([name for name, _, _ in within(shelf, [[10]], 65280)[0]], ["d", "e", "b", "c", "a"])

    def test_pictures_that_are_alike(self):
        shelf = shelf_of(1, 1, "all", [(name_of(at), [[9]]) for at in range(60)])
        found, looked, passed = within(shelf, [[9]], 0)
        self.assertEqual(found, [(name_of(at), 0, (0, 0)) for at in range(60)])
        self.assertEqual(looked, [(name_of(at), 0) for at in range(60)])
        self.assertEqual(passed, [])
        self.assertEqual(within(shelf, [[10]], 0), ([], [("aa", 1)], [("aa", 0)]))

    def test_the_greatest_difference_and_span(self):
        shelf = shelf_of(16, 16, "all", [("dark", even(16, 16, 0)), ("light", even(16, 16, 255))])
        light, dark = ("light", 0, (0, 0)), ("dark", 65280, (0, 0))
        self.assertEqual(within(shelf, even(16, 16, 255), 65280),
                         ([light, dark], [("dark", 65280), ("light", 0)], []))
        self.assertEqual(within(shelf, even(16, 16, 255), 65279)[0], [light])
        self.assertEqual(within(shelf, even(16, 16, 0), 65279)[2], [("dark", 65280)])

    def test_spans_somewhat_beyond(self):
        shelf = line_of(*LINE)
        self.assertEqual(within(shelf, [[100]], -1), ([], [("a", 0)], [("a", 1), ("a", 10), ("a", 60)]))
        self.assertEqual(within(shelf, [[100]], 65281), within(shelf, [[100]], 65280))

    def test_all_is_found_whatever_is_passed_by(self):
        passed_by = 0
        for shelf in sundry_shelves():
            for asked in asked_of(shelf):
                told = found_by_hand(shelf, asked)
                fars = {name: far for name, far, _ in told}
                spans = sorted({0, 1, 65280} | {far + more for far in list(fars.values())[:5] for more in (-1, 0)})
                for span in spans:
                    with self.subTest(kind=shelf.kind, high=shelf.high, asked=asked, span=span):
                        found, looked, passed = within(shelf, asked, span)
                        self.assertEqual(found, [one for one in told if one[1] <= span])
                        self.assertEqual((looked, passed), walk_by_hand(shelf.tree(), fars, span))
                        passed_by += len(passed)
        self.assertGreater(passed_by, 1000)


class Nearest(unittest.TestCase):
    def check(self, shelf, asked, many):
        """Hold one answer against looking at every picture and against what is asked of looked at and passed by."""
        told = found_by_hand(shelf, asked)
        fars = {name: far for name, far, _ in told}
        found, looked, passed = nearest(shelf, asked, many)
        self.assertEqual(found, told[:many])
        self.assertEqual(looked, [(name, fars[name]) for name, _ in looked])
        branches = branches_by_hand(shelf.tree(), fars)
        names = [name for name, _ in looked]
        for branch in passed:
            bound, behind = branches[branch]
            self.assertIn(branch[0], [name for name, _ in looked])
            self.assertGreater(bound, found[-1][1])
            names += behind
        # Each name just once: looked at, or in just one branch that is passed by.
        self.assertEqual(sorted(names), sorted(fars))
        if len(fars) <= many:
            self.assertEqual(passed, [])
        return passed

    def test_by_hand(self):
        shelf = line_of(*LINE)
        plain = (0, 0)
        self.assertEqual(nearest(shelf, [[100]], 1)[0], [("a", 0, plain)])
        self.assertEqual(nearest(shelf, [[100]], 2)[0], [("a", 0, plain), ("d", 1, plain)])
        self.assertEqual(nearest(shelf, [[100]], 4)[0], [("a", 0, plain), ("d", 1, plain), ("f", 1, plain),
                                                         ("b", 10, plain)])
        self.assertEqual(nearest(shelf, [[155]], 1)[0], [("e", 5, plain)])

    def test_branches_are_passed_by(self):
        shelf = line_of(*LINE)
        found, looked, passed = nearest(shelf, [[100]], 1)
        self.assertEqual((found, looked, sorted(passed)),
                         ([("a", 0, (0, 0))], [("a", 0)], [("a", 1), ("a", 10), ("a", 60)]))
        found, looked, passed = nearest(shelf, [[160]], 1)
        self.assertEqual((found, looked, sorted(passed)),
                         ([("e", 0, (0, 0))], [("a", 60), ("e", 0)], [("a", 1), ("a", 10)]))

    def test_a_branch_whose_bound_is_that_of_the_last_one_is_not_passed_by(self):
        # b and c are both 10 from 50, in branches with that bound, and b was put first.
        for cells in [(0, 60, 40), (0, 40, 60)]:
            shelf = line_of(*cells)
            found, looked, passed = nearest(shelf, [[50]], 1)
            self.assertEqual(found, [("b", 10, (0, 0))])
            self.assertEqual(sorted(looked), [("a", 50), ("b", 10), ("c", 10)])
            self.assertEqual(passed, [])
        shelf = line_of(0, 60, 41)
        found, looked, passed = nearest(shelf, [[50]], 1)
        self.assertEqual((found, looked, passed), ([("c", 9, (0, 0))], [("a", 50), ("c", 9)], [("a", 60)]))

    def test_the_bound_of_a_branch_is_that_of_those_in_which_it_lies_too(self):
        # Of b's branch alone the number says little, but it lies in a branch that is far away.
        shelf = shelf_of(1, 2, "plain", [("a", [[0, 0]]), ("b", [[100, 0]]), ("c", [[0, 100]]), ("d", [[0, 1]])])
        self.assertEqual(shelf.tree(), ("a", [(1, ("d", [])), (100, ("b", [(200, ("c", []))]))]))
        for asked in [[[0, 0]], [[50, 50]], [[0, 99]], [[100, 100]], [[255, 0]]]:
            for many in range(1, 6):
                self.check(shelf, asked, many)

    def test_no_picture_and_one(self):
        shelf = Shelf(2, 2, "all")
        for many in [1, 2, 60]:
            self.assertEqual(nearest(shelf, [[1, 2], [3, 4]], many), ([], [], []))
        shelf.put("one", [[1, 2], [3, 4]])
        for many in [1, 2, 60]:
            self.assertEqual(nearest(shelf, [[2, 4], [1, 5]], many), ([("one", 2, (1, 0))], [("one", 2)], []))

    def test_as_many_as_there_are_and_more(self):
        shelf = line_of(*LINE)
        told = found_by_hand(shelf, [[97]])
        for many in [6, 7, 59, 60]:
            found, looked, passed = nearest(shelf, [[97]], many)
            self.assertEqual(found, told)
            self.assertEqual(sorted(looked), sorted((name, far) for name, far, _ in told))
            self.assertEqual(passed, [])

    def test_pictures_that_are_alike(self):
        shelf = shelf_of(1, 1, "all", [(name_of(at), [[9]]) for at in range(60)])
        for many in [1, 2, 59, 60]:
            self.check(shelf, [[9]], many)
            self.check(shelf, [[10]], many)
        # All are as near, so that none can be passed by.
        self.assertEqual(nearest(shelf, [[12]], 1)[2], [])

    def test_as_near_ones_after_some_were_taken_out_and_put_again(self):
        shelf = line_of(12, 8, 12, 10, 8)
        self.assertEqual([name for name, _, _ in nearest(shelf, [[10]], 2)[0]], ["d", "a"])
        shelf.out("a")
        shelf.put("a", [[8]])
        self.assertEqual([name for name, _, _ in nearest(shelf, [[10]], 2)[0]], ["d", "b"])
        self.assertEqual([name for name, _, _ in nearest(shelf, [[10]], 5)[0]], ["d", "b", "c", "e", "a"])

    def test_sixty_of_sixty(self):
        shelf = full_shelf()
        for many in [1, 30, 59, 60]:
            self.check(shelf, [[31, 0]], many)
            self.check(shelf, [[0, 200]], many)

    def test_numbers_somewhat_beyond(self):
        shelf = line_of(*LINE)
        self.assertEqual(nearest(shelf, [[97]], 61), nearest(shelf, [[97]], 60))
        for many in [0, -1, -2]:
            self.assertEqual(nearest(shelf, [[97]], many)[0], [])

    def test_all_is_found_whatever_is_passed_by(self):
        passed_by = 0
        for shelf in sundry_shelves():
            there = len(shelf.names())
            for asked in asked_of(shelf):
                for many in [1, 2, 3, 8, there - 1, there, there + 1, 60]:
                    with self.subTest(kind=shelf.kind, high=shelf.high, asked=asked, many=many):
                        passed_by += len(self.check(shelf, asked, many))
        self.assertGreater(passed_by, 500)


class Sieve(unittest.TestCase):
    def test_by_hand(self):
        shelf = shelf_of(2, 2, "plain", [("a", [[1, 2], [3, 4]]), ("b", [[4, 3], [2, 1]]), ("c", [[9, 9], [9, 9]])])
        asked = [[1, 2], [3, 5]]
        self.assertEqual(sieve(shelf, asked, 1, 2), (["a", "b"], [("a", 1, (0, 0))]))
        self.assertEqual(sieve(shelf, asked, 0, 2), ([], []))
        self.assertEqual(sieve(shelf, asked, 1, 1), (["a"], [("a", 1, (0, 0))]))
        self.assertEqual(sieve(shelf, asked, 24, 2), (["a", "b"], within(shelf, asked, 24)[0]))
        self.assertEqual(sieve(shelf, asked, 25, 2)[0], ["a", "b", "c"])

    def test_the_names_stand_as_they_were_put_and_the_found_ones_by_how_far(self):
        shelf = line_of(14, 12, 10)
        self.assertEqual(sieve(shelf, [[10]], 2, 1), (["b", "c"], [("c", 0, (0, 0)), ("b", 2, (0, 0))]))
        shelf.out("b")
        shelf.put("b", [[12]])
        self.assertEqual(sieve(shelf, [[10]], 9, 1)[0], ["a", "c", "b"])

    def test_the_small_ones_are_held_by_the_kind_of_the_shelf(self):
        rows, back = [[9, 0, 0, 0], [0, 0, 0, 0]], [[0, 0, 0, 9], [0, 0, 0, 0]]
        lefts = {kind: sieve(shelf_of(2, 4, kind, [("a", back)]), rows, 0, 2)[0] for kind in
                 ["plain", "half", "mirror", "both"]}
        self.assertEqual(lefts, {"plain": [], "half": ["a"], "mirror": ["a"], "both": ["a"]})

    def test_no_picture(self):
        for size in [1, 2, 3, 6]:
            self.assertEqual(sieve(Shelf(6, 6, "all"), even(6, 6, 1), 5, size), ([], []))

    def test_held_against_looking_at_every_picture(self):
        for shelf in sundry_shelves():
            sizes = [size for size in range(1, 17) if shelf.high % size == 0 and shelf.wide % size == 0]
            for asked in asked_of(shelf):
                for size in sizes:
                    smalls = {name: self.small_by_hand(rows, size) for name, rows in kept_of(shelf)}
                    small_asked = self.small_by_hand(asked, size)
                    fars = {name: apart_by_hand(small_asked, smalls[name], shelf.kind)[0] for name in smalls}
                    for span in [0, 65280] + list(fars.values())[:4]:
                        with self.subTest(kind=shelf.kind, high=shelf.high, size=size, span=span):
                            left, found = sieve(shelf, asked, span, size)
                            self.assertEqual(left, [name for name in shelf.names() if fars[name] <= span])
                            self.assertEqual(found, within(shelf, asked, span)[0])
                            # Who is found is left: the small ones are never farther apart.
                            self.assertLessEqual({name for name, _, _ in found}, set(left))

    def small_by_hand(self, rows, size):
        """The small picture, told without the program."""
        told = [[0] * (len(rows[0]) // size) for _ in range(len(rows) // size)]
        for r, row in enumerate(rows):
            for c, cell in enumerate(row):
                told[r // size][c // size] += cell
        return told


class Copies(unittest.TestCase):
    def deeds(self):
        return [lambda shelf, rows: within(shelf, rows, 12), lambda shelf, rows: nearest(shelf, rows, 2),
                lambda shelf, rows: sieve(shelf, rows, 12, 1)]

    def test_nothing_that_is_handed_in_is_changed(self):
        for shelf in sundry_shelves():
            for deed in self.deeds():
                rows = mixed(shelf.high, shelf.wide, 4, 20)
                before = copy.deepcopy(rows), copy.deepcopy(state(shelf))
                deed(shelf, rows)
                self.assertEqual((rows, state(shelf)), before)

    def test_what_is_given_back_may_be_changed(self):
        for deed in self.deeds():
            shelf, other, rows = line_of(*LINE), line_of(*LINE), [[101]]
            before = copy.deepcopy(state(shelf))
            told = deed(shelf, rows)
            between = deed(other, rows)
            again = copy.deepcopy(told)
            for part in told:
                part.append("new")
                del part[0]
            self.assertEqual(rows, [[101]])
            self.assertEqual(state(shelf), before)
            self.assertEqual(state(other), before)
            self.assertEqual(between, again)
            self.assertEqual(deed(shelf, rows), again)
            self.assertEqual(deed(other, rows), again)

    def test_the_lists_of_one_answer_are_apart_from_each_other(self):
        for deed in self.deeds():
            told = deed(line_of(5), [[5]]) + deed(Shelf(1, 1, "plain"), [[5]])
            for at, part in enumerate(told):
                before = copy.deepcopy(told[at + 1:])
                part.append("new")
                self.assertEqual(told[at + 1:], before)

    def test_the_asked_picture_may_be_changed_afterwards(self):
        for deed in self.deeds():
            shelf, rows = line_of(*LINE), [[101]]
            told = deed(shelf, rows)
            before = copy.deepcopy(told), copy.deepcopy(state(shelf))
            rows[0][0] = 7
            rows.append([])
            self.assertEqual((told, state(shelf)), before)

    def test_what_was_given_back_stays_when_the_shelf_changes(self):
        for deed in self.deeds():
            shelf = line_of(*LINE)
            told = deed(shelf, [[101]])
            before = copy.deepcopy(told)
            empty(shelf)
            shelf.put("new", [[1]])
            self.assertEqual(told, before)

    def test_kinds_of_values(self):
        shelf = line_of(*LINE)
        for deed, many in zip(self.deeds(), [3, 3, 2]):
            told = deed(shelf, [[101]])
            self.assertIs(type(told), tuple)
            self.assertEqual([type(part) for part in told], [list] * many)
        for told in [within(shelf, [[101]], 1), nearest(shelf, [[101]], 1)]:
            for part in told:
                self.assertTrue(part)
                self.assertEqual({type(one) for one in part}, {tuple})
        left, found = sieve(shelf, [[101]], 1, 1)
        self.assertEqual([type(left[0]), type(found[0]), type(found[0][2])], [str, tuple, tuple])

    def test_the_kinds_are_all_asked(self):
        self.assertEqual({shelf.kind for shelf in sundry_shelves()}, set(KINDS))


if __name__ == "__main__":
    unittest.main()
