"""Asking: which kept pictures are near to one, what was looked at for it and which branches were passed by."""

from heapq import heappop, heappush

from likeshelf.likeness import apart
from likeshelf.pictures import need_picture_of, small


class Search:
    """One picture that is asked of a shelf, what was looked at for it and which branches were passed by."""

    def __init__(self, shelf, rows):
        need_picture_of(rows, shelf.high, shelf.wide)
        self.shelf = shelf
        self.rows = rows
        # From name to (name, far, way), in the order in which they were looked at.
        self.seen = {}
        self.passed = []

    def look(self, name):
        """Look at the picture of a name and tell how far it is from the asked one."""
        far, way = apart(self.rows, self.shelf.picture(name), self.shelf.kind)
        self.seen[name] = (name, far, way)
        return far

    def looked(self):
        """Tell (name, far) of all that were looked at, in that order."""
        return [(name, far) for name, far, _ in self.seen.values()]

    def found(self):
        """Tell (name, far, way) of all that were looked at, the nearest first, of as near ones the first put."""
        in_order = [self.seen[name] for name in self.shelf.names() if name in self.seen]
        # By how far alone, as sorted leaves those that are as near in their order.
        return sorted(in_order, key=lambda told: told[1])

    def has_nearer(self, many, bound):
        """Tell whether so many pictures nearer than a bound were looked at."""
        return len([told for told in self.seen.values() if told[1] < bound]) >= many

    def go_into(self, tree, span):
        """Look at the first one of a tree, then go into its branches, or pass them by, by their numbers."""
        name, branches = tree
        far = self.look(name)
        for number, behind in branches:
            if abs(number - far) > span:
                self.passed.append((name, number))
            else:
                self.go_into(behind, span)

    def go_to(self, tree, bound, waiting):
        """Look at the first one of a tree with this bound, and let its branches wait, each by its own bound."""
        name, branches = tree
        far = self.look(name)
        for number, behind in branches:
            # No two branches have both name and number in common, so the trees are never compared.
            heappush(waiting, (max(bound, abs(number - far)), (name, number), behind))

    def go_to_nearest(self, tree, many):
        """Look at a tree's pictures by the least bound until so many are nearer than all that wait."""
        waiting = []
        self.go_to(tree, 0, waiting)
        while waiting and not self.has_nearer(many, waiting[0][0]):
            bound, _, behind = heappop(waiting)
            self.go_to(behind, bound, waiting)
        self.passed.extend([branch[1] for branch in sorted(waiting)])


def within(shelf, rows, span):
    """Tell (found, looked, passed): all pictures that are no farther from the asked one than the span."""
    search = Search(shelf, rows)
    tree = shelf.tree()
    if tree is not None:
        search.go_into(tree, span)
    found = [told for told in search.found() if told[1] <= span]
    return found, search.looked(), search.passed


def nearest(shelf, rows, many):
    """Tell (found, looked, passed): so many pictures that are the nearest to the asked one."""
    search = Search(shelf, rows)
    tree = shelf.tree()
    if tree is not None:
        search.go_to_nearest(tree, many)
    return search.found()[:max(many, 0)], search.looked(), search.passed


def sieve(shelf, rows, span, size):
    """Tell (left, found): the names that the small ones of a size leave, and what within finds."""
    need_picture_of(rows, shelf.high, shelf.wide)
    asked = small(rows, size)
    left = []
    for name in shelf.names():
        far, _ = apart(asked, small(shelf.picture(name), size), shelf.kind)
        if far <= span:
            left.append(name)
    return left, within(shelf, rows, span)[0]
