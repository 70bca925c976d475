"""Bunches: how the pictures of a shelf stand beside one another."""

from likeshelf.likeness import apart


def all_pairs(shelf):
    """Tell (one, other, far) of all pairs, in the order of the first and then of the second ones."""
    kept = [(name, shelf.picture(name)) for name in shelf.names()]
    return [
        (one, other, apart(one_rows, other_rows, shelf.kind)[0])
        for at, (one, one_rows) in enumerate(kept)
        for other, other_rows in kept[at + 1:]
    ]


def pairs(shelf, span):
    """Tell (one, other, far) of all pairs that are no farther apart than the span."""
    return [pair for pair in all_pairs(shelf) if pair[2] <= span]


def bunches(shelf, span):
    """Tell lists of names, those together that a chain of pictures joins, each within the span of the next one."""
    # From name to the name that stands for its bunch.
    bunch_of = {name: name for name in shelf.names()}
    for one, other, _ in pairs(shelf, span):
        left, joined = bunch_of[other], bunch_of[one]
        bunch_of = {name: joined if bunch == left else bunch for name, bunch in bunch_of.items()}
    told = {}
    for name, bunch in bunch_of.items():
        told.setdefault(bunch, []).append(name)
    return list(told.values())


def middle(shelf):
    """Tell (name, far) of the one that is the least far from all together, or None where there is none."""
    totals = {name: 0 for name in shelf.names()}
    for one, other, far in all_pairs(shelf):
        totals[one] += far
        totals[other] += far
    # By how far alone, as min then takes the one that was put first.
    return min(list(totals.items()), key=lambda told: told[1], default=None)


def closest(shelf):
    """Tell (one, other, far) of the two that are the least far apart, or None where there are fewer than two."""
    # By how far alone, as min then takes the first such pair.
    return min(all_pairs(shelf), key=lambda pair: pair[2], default=None)


def first_within(shelf, kept, name, span):
    """Tell (keeper, far) of the first kept one within the span of a picture, or None where there is none."""
    rows = shelf.picture(name)
    for keeper in kept:
        far, _ = apart(shelf.picture(keeper), rows, shelf.kind)
        if far <= span:
            return keeper, far
    return None


def thinned(shelf, span):
    """Tell (kept, covered): those with no kept one within the span, and for each other one the first that is."""
    kept = []
    covered = {}
    for name in shelf.names():
        cover = first_within(shelf, kept, name, span)
        if cover is None:
            kept.append(name)
        else:
            covered[name] = cover
    return kept, covered
