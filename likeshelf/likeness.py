"""Likeness: how far two pictures are apart where one of them may be turned or mirrored."""

from likeshelf.pictures import difference, divides, moved, small, width

# The order of the ways counts: of ways that are as near the first one is told.
WAYS = {
    "plain": ((0, 0),),
    "half": ((0, 0), (2, 0)),
    "turn": ((0, 0), (1, 0), (2, 0), (3, 0)),
    "mirror": ((0, 0), (0, 1)),
    "both": ((0, 0), (2, 0), (0, 1), (2, 1)),
    "all": ((0, 0), (1, 0), (2, 0), (3, 0), (0, 1), (1, 1), (2, 1), (3, 1)),
}

# A quarter turn exchanges height and width, so these kinds need both to be the same.
SQUARE_KINDS = ("turn", "all")


def kind_fits(kind, high, wide):
    """Tell whether a word is a kind of likeness for pictures of this height and width."""
    return kind in WAYS and (high == wide or kind not in SQUARE_KINDS)


def apart(one, other, kind):
    """Tell (far, way): the least difference of one and the other moved by a way, and the first such way."""
    told = [(difference(one, moved(other, way)), way) for way in WAYS[kind]]
    # By the difference alone, as min then takes the first of several.
    return min(told, key=lambda pair: pair[0])


def common_sizes(high, wide):
    """Tell all sizes of squares that divide height and width, the greatest first."""
    return [size for size in range(min(high, wide), 0, -1) if divides(size, high, wide)]


def bounds(one, other, kind):
    """Tell (size, far) for each size of squares, the greatest first: how far the small ones are apart."""
    sizes = common_sizes(len(one), width(one))
    return [(size, apart(small(one, size), small(other, size), kind)[0]) for size in sizes]
