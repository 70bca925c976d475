"""Pictures for the tests, and a second, slower telling of likeness to hold the program against."""

KINDS = {
    "plain": [(0, 0)],
    "half": [(0, 0), (2, 0)],
    "turn": [(0, 0), (1, 0), (2, 0), (3, 0)],
    "mirror": [(0, 0), (0, 1)],
    "both": [(0, 0), (2, 0), (0, 1), (2, 1)],
    "all": [(0, 0), (1, 0), (2, 0), (3, 0), (0, 1), (1, 1), (2, 1), (3, 1)],
}
SQUARE_KINDS = ["turn", "all"]

# The pictures of [[1, 2, 3], [4, 5, 6]] by each way, worked out by hand.
WIDE = [[1, 2, 3], [4, 5, 6]]
WIDE_MOVED = {
    (0, 0): [[1, 2, 3], [4, 5, 6]],
    (1, 0): [[3, 6], [2, 5], [1, 4]],
    (2, 0): [[6, 5, 4], [3, 2, 1]],
    (3, 0): [[4, 1], [5, 2], [6, 3]],
    (0, 1): [[3, 2, 1], [6, 5, 4]],
    (1, 1): [[1, 4], [2, 5], [3, 6]],
    (2, 1): [[4, 5, 6], [1, 2, 3]],
    (3, 1): [[6, 3], [5, 2], [4, 1]],
}


def even(high, wide, cell):
    """A picture of one cell all over."""
    return [[cell] * wide for _ in range(high)]


def mixed(high, wide, seed, most=255):
    """A picture of cells without any order, the same each time."""
    rows = []
    for _ in range(high):
        row = []
        for _ in range(wide):
            seed = (seed * 1103515245 + 12345) % 2 ** 31
            row.append((seed >> 12) % (most + 1))
        rows.append(row)
    return rows


def moved_by_hand(rows, way):
    """The picture moved by a way, by the place from which each cell comes."""
    turns, side = way
    high, wide = len(rows), len(rows[0])
    old = {}
    for r in range(high):
        for c in range(wide):
            old[r, wide - 1 - c if side else c] = rows[r][c]
    if turns == 0:
        return [[old[r, c] for c in range(wide)] for r in range(high)]
    if turns == 1:
        return [[old[c, wide - 1 - r] for c in range(high)] for r in range(wide)]
    if turns == 2:
        return [[old[high - 1 - r, wide - 1 - c] for c in range(wide)] for r in range(high)]
    return [[old[high - 1 - c, r] for c in range(high)] for r in range(wide)]


def apart_by_hand(one, other, kind):
    """(far, way), told without the program."""
    best = None
    for way in KINDS[kind]:
        there = moved_by_hand(other, way)
        far = 0
        for r in range(len(one)):
            for c in range(len(one[0])):
                far += abs(one[r][c] - there[r][c])
        if best is None or far < best[0]:
            best = (far, way)
    return best


def tree_by_hand(kept, kind):
    """The tree of a list of (name, rows), told without the program."""
    if not kept:
        return None
    first_name, first_rows = kept[0]
    told = [(apart_by_hand(first_rows, rows, kind)[0], name, rows) for name, rows in kept[1:]]
    branches = []
    for number in sorted({far for far, _, _ in told}):
        branches.append((number, tree_by_hand([(name, rows) for far, name, rows in told if far == number], kind)))
    return (first_name, branches)


def name_of(number):
    """Names aa, ab .. for as many pictures as are wanted."""
    return "abcdefghijklmnopqrstuvwxyz"[number // 26] + "abcdefghijklmnopqrstuvwxyz"[number % 26]
