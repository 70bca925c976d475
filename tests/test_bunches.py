"""Points 1, 12, 13 and 14 for likeshelf.bunches."""

import copy
import unittest

from likeshelf.bunches import bunches, closest, middle, pairs, thinned
from likeshelf.shelves import Shelf
from samples import empty, even, fars_by_hand, line_of, mixed, name_of, shelf_of, state, sundry_shelves

# Two pictures that are alike only where one may be turned.
LEAN, BACK = [[9, 0], [0, 0]], [[0, 9], [0, 0]]


def by_kind(ask):
    """What is told of LEAN and BACK on shelves of some kinds."""
    return {kind: ask(shelf_of(2, 2, kind, [("a", LEAN), ("b", BACK)])) for kind in ["plain", "turn", "mirror", "half"]}


def spans_of(fars):
    """Spans at, and just below, some of the differences there are, and the least and the greatest one."""
    return sorted({0, 1, 65280} | {max(0, far - less) for far in sorted(set(fars.values()))[:6] for less in (0, 1)})


def bunches_by_hand(names, fars, span):
    """The bunches, told without the program: all that can be reached from each one, grown until nothing is new."""
    told, placed = [], set()
    for name in names:
        if name in placed:
            continue
        reached, grown = {name}, None
        while grown != reached:
            grown, reached = reached, {far for far in names if any(fars[near, far] <= span for near in reached)}
        told.append([far for far in names if far in reached])
        placed |= reached
    return told


class Pairs(unittest.TestCase):
    def test_by_hand(self):
        shelf = line_of(10, 13, 20, 12)
        self.assertEqual(pairs(shelf, 0), [])
        self.assertEqual(pairs(shelf, 1), [("b", "d", 1)])
        self.assertEqual(pairs(shelf, 2), [("a", "d", 2), ("b", "d", 1)])
        self.assertEqual(pairs(shelf, 7), [("a", "b", 3), ("a", "d", 2), ("b", "c", 7), ("b", "d", 1)])
        self.assertEqual(pairs(shelf, 65280), [("a", "b", 3), ("a", "c", 10), ("a", "d", 2), ("b", "c", 7),
                                               ("b", "d", 1), ("c", "d", 8)])

    def test_one_is_put_ahead_of_other(self):
        shelf = line_of(10, 13, 20)
        shelf.out("a")
        shelf.put("a", [[10]])
        self.assertEqual(pairs(shelf, 10), [("b", "c", 7), ("b", "a", 3), ("c", "a", 10)])

    def test_no_picture_and_one(self):
        for span in [0, 65280]:
            self.assertEqual(pairs(Shelf(2, 2, "all"), span), [])
            self.assertEqual(pairs(line_of(5), span), [])

    def test_by_the_kind_of_the_shelf(self):
        self.assertEqual(by_kind(lambda shelf: pairs(shelf, 17)),
                         {"plain": [], "turn": [("a", "b", 0)], "mirror": [("a", "b", 0)], "half": []})
        self.assertEqual(by_kind(lambda shelf: pairs(shelf, 18))["half"], [("a", "b", 18)])

    def test_the_greatest_difference(self):
        shelf = shelf_of(16, 16, "all", [("dark", even(16, 16, 0)), ("light", even(16, 16, 255))])
        self.assertEqual(pairs(shelf, 65279), [])
        self.assertEqual(pairs(shelf, 65280), [("dark", "light", 65280)])

    def test_held_against_a_telling_by_hand(self):
        for shelf in sundry_shelves():
            fars, names = fars_by_hand(shelf), shelf.names()
            every = [(one, other, fars[one, other]) for at, one in enumerate(names) for other in names[at + 1:]]
            for span in spans_of(fars):
                self.assertEqual(pairs(shelf, span), [pair for pair in every if pair[2] <= span])


class Bunches(unittest.TestCase):
    def test_by_hand(self):
        shelf = line_of(10, 30, 13, 34, 60, 16)
        self.assertEqual(bunches(shelf, 2), [["a"], ["b"], ["c"], ["d"], ["e"], ["f"]])
        self.assertEqual(bunches(shelf, 3), [["a", "c", "f"], ["b"], ["d"], ["e"]])
        self.assertEqual(bunches(shelf, 4), [["a", "c", "f"], ["b", "d"], ["e"]])
        self.assertEqual(bunches(shelf, 13), [["a", "c", "f"], ["b", "d"], ["e"]])
        self.assertEqual(bunches(shelf, 14), [["a", "b", "c", "d", "f"], ["e"]])
        self.assertEqual(bunches(shelf, 26), [["a", "b", "c", "d", "e", "f"]])

    def test_chains_in_every_order(self):
        # The last one joins bunches that stood by themselves till then.
        self.assertEqual(bunches(line_of(1, 5, 9, 3, 7), 2), [["a", "b", "c", "d", "e"]])
        self.assertEqual(bunches(line_of(9, 1, 5, 7, 3), 2), [["a", "b", "c", "d", "e"]])
        self.assertEqual(bunches(line_of(1, 50, 3, 52, 99, 5), 2), [["a", "c", "f"], ["b", "d"], ["e"]])

    def test_a_long_chain(self):
        cells = [(37 * at) % 60 * 4 for at in range(60)]
        kept = [(name_of(at), [[cell]]) for at, cell in enumerate(cells)]
        shelf = shelf_of(1, 1, "plain", kept)
        names = [name for name, _ in kept]
        self.assertEqual(bunches(shelf, 3), [[name] for name in names])
        self.assertEqual(bunches(shelf, 4), [names])
        # Without one link there are two chains.
        link = next(name for name, rows in kept if rows == [[120]])
        shelf.out(link)
        first = [name for name, rows in kept if (rows[0][0] < 120) == (cells[0] < 120) and name != link]
        rest = [name for name in names if name not in first and name != link]
        self.assertEqual(bunches(shelf, 4), [first, rest])

    def test_lists_by_their_first_ones_after_a_name_was_put_again(self):
        shelf = line_of(10, 30, 13, 34)
        shelf.out("a")
        shelf.put("a", [[10]])
        self.assertEqual(bunches(shelf, 4), [["b", "d"], ["c", "a"]])

    def test_no_picture_one_and_alike_ones(self):
        self.assertEqual(bunches(Shelf(2, 2, "all"), 5), [])
        self.assertEqual(bunches(line_of(5), 0), [["a"]])
        self.assertEqual(bunches(line_of(5, 6, 5), 0), [["a", "c"], ["b"]])
        self.assertEqual(bunches(line_of(5, 6, 5), -1), [["a"], ["b"], ["c"]])

    def test_by_the_kind_of_the_shelf(self):
        self.assertEqual(by_kind(lambda shelf: bunches(shelf, 0)),
                         {"plain": [["a"], ["b"]], "turn": [["a", "b"]], "mirror": [["a", "b"]],
                          "half": [["a"], ["b"]]})

    def test_held_against_a_telling_by_hand(self):
        for shelf in sundry_shelves():
            fars = fars_by_hand(shelf)
            for span in spans_of(fars):
                self.assertEqual(bunches(shelf, span), bunches_by_hand(shelf.names(), fars, span))


class Middle(unittest.TestCase):
    def test_by_hand(self):
        self.assertEqual(middle(line_of(10, 13, 20)), ("b", 10))
        self.assertEqual(middle(line_of(10, 100, 13, 20)), ("c", 97))

    def test_the_first_put_of_several(self):
        self.assertEqual(middle(line_of(0, 10, 20, 30)), ("b", 40))
        self.assertEqual(middle(line_of(30, 20, 10, 0)), ("b", 40))
        shelf = line_of(0, 10, 20, 30)
        shelf.out("b")
        shelf.put("b", [[10]])
        self.assertEqual(middle(shelf), ("c", 40))

    def test_none_one_two_and_alike_ones(self):
        self.assertIsNone(middle(Shelf(2, 2, "all")))
        self.assertEqual(middle(line_of(5)), ("a", 0))
        self.assertEqual(middle(line_of(5, 9)), ("a", 4))
        self.assertEqual(middle(line_of(5, 5, 5)), ("a", 0))
        emptied = line_of(5)
        emptied.out("a")
        self.assertIsNone(middle(emptied))

    def test_by_the_kind_of_the_shelf(self):
        self.assertEqual(by_kind(middle), {"plain": ("a", 18), "turn": ("a", 0), "mirror": ("a", 0), "half": ("a", 18)})

    def test_more_than_the_greatest_difference(self):
        kept = [(name_of(at), even(16, 16, 255 * (at % 2))) for at in range(60)]
        self.assertEqual(middle(shelf_of(16, 16, "plain", kept)), ("aa", 30 * 65280))

    def test_held_against_a_telling_by_hand(self):
        for shelf in sundry_shelves():
            fars, names = fars_by_hand(shelf), shelf.names()
            totals = [sum(fars[name, other] for other in names) for name in names]
            self.assertEqual(middle(shelf), (names[totals.index(min(totals))], min(totals)))


class Closest(unittest.TestCase):
    def test_by_hand(self):
        self.assertEqual(closest(line_of(10, 40, 13, 20)), ("a", "c", 3))
        self.assertEqual(closest(line_of(10, 40, 20, 38)), ("b", "d", 2))

    def test_the_first_such(self):
        self.assertEqual(closest(line_of(10, 20, 30)), ("a", "b", 10))
        self.assertEqual(closest(line_of(20, 50, 10, 30)), ("a", "c", 10))
        self.assertEqual(closest(line_of(0, 10, 50, 10, 50)), ("b", "d", 0))
        shelf = line_of(10, 20, 30)
        shelf.out("a")
        shelf.put("a", [[10]])
        self.assertEqual(closest(shelf), ("b", "c", 10))
        shelf.out("c")
        self.assertEqual(closest(shelf), ("b", "a", 10))

    def test_none_one_two_and_alike_ones(self):
        self.assertIsNone(closest(Shelf(2, 2, "all")))
        self.assertIsNone(closest(line_of(5)))
        self.assertEqual(closest(line_of(5, 9)), ("a", "b", 4))
        self.assertEqual(closest(line_of(5, 5, 5)), ("a", "b", 0))

    def test_by_the_kind_of_the_shelf(self):
        self.assertEqual(by_kind(closest), {"plain": ("a", "b", 18), "turn": ("a", "b", 0), "mirror": ("a", "b", 0),
                                            "half": ("a", "b", 18)})

    def test_held_against_a_telling_by_hand(self):
        for shelf in sundry_shelves():
            every = pairs(shelf, 65280)
            least = min(far for _, _, far in every)
            self.assertEqual(closest(shelf), next(pair for pair in every if pair[2] == least))


class Thinned(unittest.TestCase):
    def test_by_hand(self):
        shelf = line_of(10, 13, 20, 12, 16)
        self.assertEqual(thinned(shelf, 0), (["a", "b", "c", "d", "e"], {}))
        self.assertEqual(thinned(shelf, 2), (["a", "b", "c", "e"], {"d": ("a", 2)}))
        self.assertEqual(thinned(shelf, 3), (["a", "c", "e"], {"b": ("a", 3), "d": ("a", 2)}))
        self.assertEqual(thinned(shelf, 6), (["a", "c"], {"b": ("a", 3), "d": ("a", 2), "e": ("a", 6)}))
        self.assertEqual(thinned(shelf, 10), (["a"], {"b": ("a", 3), "c": ("a", 10), "d": ("a", 2), "e": ("a", 6)}))

    def test_the_first_kept_one_not_the_nearest(self):
        self.assertEqual(thinned(line_of(10, 20, 16), 6), (["a", "b"], {"c": ("a", 6)}))

    def test_a_covered_one_covers_none(self):
        self.assertEqual(thinned(line_of(10, 15, 20, 25), 5), (["a", "c"], {"b": ("a", 5), "d": ("c", 5)}))

    def test_the_order_is_that_in_which_they_were_put(self):
        shelf = line_of(10, 15, 20)
        shelf.out("a")
        shelf.put("a", [[10]])
        self.assertEqual(thinned(shelf, 5), (["b"], {"c": ("b", 5), "a": ("b", 5)}))

    def test_no_picture_one_and_alike_ones(self):
        self.assertEqual(thinned(Shelf(2, 2, "all"), 5), ([], {}))
        self.assertEqual(thinned(line_of(5), 65280), (["a"], {}))
        self.assertEqual(thinned(line_of(5, 5, 5), 0), (["a"], {"b": ("a", 0), "c": ("a", 0)}))

    def test_by_the_kind_of_the_shelf(self):
        alone, both = (["a"], {"b": ("a", 0)}), (["a", "b"], {})
        self.assertEqual(by_kind(lambda shelf: thinned(shelf, 17)),
                         {"plain": both, "turn": alone, "mirror": alone, "half": both})

    def test_held_against_a_telling_by_hand(self):
        for shelf in sundry_shelves():
            fars = fars_by_hand(shelf)
            for span in spans_of(fars):
                kept, covered = [], {}
                for name in shelf.names():
                    near = [one for one in kept if fars[one, name] <= span]
                    if near:
                        covered[name] = (near[0], fars[near[0], name])
                    else:
                        kept.append(name)
                self.assertEqual(thinned(shelf, span), (kept, covered))


class Copies(unittest.TestCase):
    DEEDS = [lambda shelf: pairs(shelf, 9), lambda shelf: bunches(shelf, 9), lambda shelf: thinned(shelf, 9),
             middle, closest]

    def test_the_shelf_is_not_changed(self):
        shelf = shelf_of(3, 3, "all", [(name_of(at), mixed(3, 3, at, 9)) for at in range(9)])
        before = copy.deepcopy(state(shelf))
        for deed in self.DEEDS:
            deed(shelf)
            self.assertEqual(state(shelf), before)

    def test_what_is_given_back_may_be_changed(self):
        for deed in self.DEEDS[:3]:
            shelf, other = line_of(10, 13, 20, 12), line_of(10, 13, 20, 12)
            before = copy.deepcopy(state(shelf))
            told = deed(shelf)
            between = deed(other)
            again = copy.deepcopy(told)
            for part in list(told):
                if isinstance(part, list):
                    part.append("new")
                    del part[0]
                elif isinstance(part, dict):
                    part.clear()
            if isinstance(told, list):
                told.clear()
            self.assertEqual(between, again)
            self.assertEqual(deed(shelf), again)
            self.assertEqual(deed(other), again)
            self.assertEqual(state(shelf), before)
            self.assertEqual(state(other), before)

    def test_the_lists_of_one_answer_are_apart_from_each_other(self):
        told = bunches(line_of(1, 1, 50, 50, 99), 0)
        told[0].append("new")
        told[2].append("old")
        self.assertEqual(told, [["a", "b", "new"], ["c", "d"], ["e", "old"]])

    def test_what_was_given_back_stays_when_the_shelf_changes(self):
        for deed in self.DEEDS:
            shelf = line_of(10, 13, 20, 12)
            told = deed(shelf)
            before = copy.deepcopy(told)
            empty(shelf)
            shelf.put("new", [[1]])
            self.assertEqual(told, before)

    def test_kinds_of_values(self):
        shelf = line_of(10, 13, 20, 12)
        told = pairs(shelf, 9)
        self.assertEqual([type(told), type(told[0])], [list, tuple])
        told = bunches(shelf, 9)
        self.assertEqual([type(told), type(told[0])], [list, list])
        for deed in [middle, closest]:
            self.assertIs(type(deed(shelf)), tuple)
        told = thinned(shelf, 9)
        self.assertEqual([type(told), type(told[0]), type(told[1]), type(told[1]["b"])], [tuple, list, dict, tuple])


if __name__ == "__main__":
    unittest.main()
