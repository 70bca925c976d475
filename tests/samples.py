"""Pictures for the tests, and a second, slower telling of likeness to hold the program against."""

from likeshelf.shelves import Shelf

KINDS = {
    "plain": [(0, 0)],
    "half": [(0, 0), (2, 0)],
    "turn": [(0, 0), (1, 0), (2, 0), (3, 0)],
    "mirror": [(0, 0), (0, 1)],
    "both": [(0, 0), (2, 0), (0, 1), (2, 1)],
    "all": [(0, 0), (1, 0), (2, 0), (3, 0), (0, 1), (1, 1), (2, 1), (3, 1)],
}
SQUARE_KINDS = ["turn", "all"]

# The pictures of [[1, 2, 3], [4, 5, 6]] by each way, worked out by hand.
WIDE = [[1, 2, 3], [4, 5, 6]]
WIDE_MOVED = {
    (0, 0): [[1, 2, 3], [4, 5, 6]],
    (1, 0): [[3, 6], [2, 5], [1, 4]],
    (2, 0): [[6, 5, 4], [3, 2, 1]],
    (3, 0): [[4, 1], [5, 2], [6, 3]],
    (0, 1): [[3, 2, 1], [6, 5, 4]],
    (1, 1): [[1, 4], [2, 5], [3, 6]],
    (2, 1): [[4, 5, 6], [1, 2, 3]],
    (3, 1): [[6, 3], [5, 2], [4, 1]],
}


def even(high, wide, cell):
    """A picture of one cell all over."""
    return [[cell] * wide for _ in range(high)]


def mixed(high, wide, seed, most=255):
    """A picture of cells without any order, the same each time."""
    rows = []
    for _ in range(high):
        row = []
        for _ in range(wide):
            seed = (seed * 1103515245 + 12345) % 2 ** 31
            row.append((seed >> 12) % (most + 1))
        rows.append(row)
    return rows


def moved_by_hand(rows, way):
    """The picture moved by a way, by the place from which each cell comes."""
    turns, side = way
    high, wide = len(rows), len(rows[0])
    old = {}
    for r in range(high):
        for c in range(wide):
            old[r, wide - 1 - c if side else c] = rows[r][c]
    if turns == 0:
        return [[old[r, c] for c in range(wide)] for r in range(high)]
    if turns == 1:
        return [[old[c, wide - 1 - r] for c in range(high)] for r in range(wide)]
    if turns == 2:
        return [[old[high - 1 - r, wide - 1 - c] for c in range(wide)] for r in range(high)]
    return [[old[high - 1 - c, r] for c in range(high)] for r in range(wide)]


def apart_by_hand(one, other, kind):
    """(far, way), told without the program."""
    best = None
    for way in KINDS[kind]:
        there = moved_by_hand(other, way)
        far = 0
        for r in range(len(one)):
            for c in range(len(one[0])):
                far += abs(one[r][c] - there[r][c])
        if best is None or far < best[0]:
            best = (far, way)
    return best


def tree_by_hand(kept, kind):
    """The tree of a list of (name, rows), told without the program."""
    if not kept:
        return None
    first_name, first_rows = kept[0]
    told = [(apart_by_hand(first_rows, rows, kind)[0], name, rows) for name, rows in kept[1:]]
    branches = []
    for number in sorted({far for far, _, _ in told}):
        branches.append((number, tree_by_hand([(name, rows) for far, name, rows in told if far == number], kind)))
    return (first_name, branches)


def name_of(number):
    """Names aa, ab .. for as many pictures as are wanted."""
    return "abcdefghijklmnopqrstuvwxyz"[number // 26] + "abcdefghijklmnopqrstuvwxyz"[number % 26]


def shelf_of(high, wide, kind, kept):
    """A shelf of a list of (name, rows)."""
    shelf = Shelf(high, wide, kind)
    for name, rows in kept:
        shelf.put(name, rows)
    return shelf


def line_of(*cells):
    """A plain shelf of single cells, named a, b, c .. in their order."""
    return shelf_of(1, 1, "plain", [(name, [[cell]]) for name, cell in zip("abcdefghijklmnopqrstuvwxyz", cells)])


def full_shelf():
    """A shelf of sixty pictures."""
    return shelf_of(1, 2, "half", [(name_of(number), [[number, 0]]) for number in range(60)])


def kept_of(shelf):
    """The list of (name, rows) of a shelf."""
    return [(name, shelf.picture(name)) for name in shelf.names()]


def state(shelf):
    """All that a shelf tells of itself."""
    return kept_of(shelf), shelf.tree()


def empty(shelf):
    """Take all pictures out of a shelf."""
    for name in shelf.names():
        shelf.out(name)


def sundry_shelves():
    """Shelves of every kind and of several sizes and cells; some pictures were taken out and put again."""
    for high, wide, most, many in [(1, 1, 255, 30), (2, 2, 2, 40), (2, 2, 255, 60), (2, 3, 1, 25), (6, 4, 9, 12)]:
        for kind in KINDS:
            if high != wide and kind in SQUARE_KINDS:
                continue
            kept = [(name_of(at), mixed(high, wide, at, most)) for at in range(many)]
            shelf = shelf_of(high, wide, kind, kept)
            for at in [0, 3, many - 2]:
                shelf.out(name_of(at))
            for at in [3, 0]:
                shelf.put(name_of(at), mixed(high, wide, at + 200, most))
            yield shelf


def found_by_hand(shelf, asked):
    """(name, far, way) of all pictures, the nearest first, of as near ones the first put."""
    told = [(name, *apart_by_hand(asked, rows, shelf.kind)) for name, rows in kept_of(shelf)]
    return sorted(told, key=lambda one: one[1])


def fars_by_hand(shelf):
    """How far every two pictures are apart, by their two names."""
    kept = kept_of(shelf)
    return {(one, other): apart_by_hand(one_rows, other_rows, shelf.kind)[0]
            for one, one_rows in kept for other, other_rows in kept}
