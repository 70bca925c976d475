"""Finding: where a little picture lies in a great one."""

from likeshelf.errors import BadPicture
from likeshelf.pictures import difference, need_picture, width


def sums(rows):
    """Tell for each corner of a picture's cells the sum of all cells above and to the left of it."""
    told = [[0] * (width(rows) + 1)]
    for row in rows:
        line = [0]
        row_sum = 0
        for cell, above in zip(row, told[-1][1:]):
            row_sum += cell
            line.append(above + row_sum)
        told.append(line)
    return told


def part_sum(corners, top, left, high, wide):
    """Tell the sum of the cells of a part of a picture, from the sums at the picture's corners."""
    upper, lower = corners[top], corners[top + high]
    return lower[left + wide] - lower[left] - upper[left + wide] + upper[left]


def part(rows, top, left, high, wide):
    """Tell the cells of a part of a picture."""
    return [row[left:left + wide] for row in rows[top:top + high]]


def need_room(rows, little):
    """Refuse with BadPicture what is no picture, or a little one that is higher or wider than the other."""
    need_picture(rows)
    need_picture(little)
    if len(little) > len(rows) or width(little) > width(rows):
        raise BadPicture(f"one of {len(little)} by {width(little)} in one of {len(rows)} by {width(rows)}")


def places(rows, little, span):
    """Tell (found, passed): where a little picture lies within the span, and where the sums alone rule it out."""
    need_room(rows, little)
    high, wide = len(little), width(little)
    corners = sums(rows)
    total = sums(little)[high][wide]
    found = []
    passed = []
    for top in range(len(rows) - high + 1):
        for left in range(width(rows) - wide + 1):
            bound = abs(part_sum(corners, top, left, high, wide) - total)
            if bound > span:
                passed.append((top, left, bound))
                continue
            far = difference(part(rows, top, left, high, wide), little)
            if far <= span:
                found.append((top, left, far))
    return found, passed
