"""Pictures: what is one, how it is mirrored, turned and made small, and how much two differ."""

from likeshelf.errors import BadPicture

MOST_SIDE = 16
MOST_CELL = 255


def can_be_side(number):
    """Tell whether a picture can have so many rows or so many cells in a row."""
    return 1 <= number <= MOST_SIDE


def is_cell(number):
    """Tell whether a number can be a cell."""
    return 0 <= number <= MOST_CELL


def width(rows):
    """Tell how many cells each row has, 0 where there is no row."""
    return len(rows[0]) if rows else 0


def is_picture(rows):
    """Tell whether lists of numbers are a picture."""
    wide = width(rows)
    if not can_be_side(len(rows)) or not can_be_side(wide):
        return False
    return all([len(row) == wide and all([is_cell(cell) for cell in row]) for row in rows])


def need_picture(rows):
    """Refuse with BadPicture what is no picture."""
    if not is_picture(rows):
        raise BadPicture("not 1 to 16 rows of as many cells each, 1 to 16, from 0 to 255")


def need_picture_of(rows, high, wide):
    """Refuse with BadPicture what is no picture of this height and width."""
    need_picture(rows)
    if len(rows) != high or width(rows) != wide:
        raise BadPicture(f"a picture of {len(rows)} by {width(rows)}, not of {high} by {wide}")


def copied(rows):
    """Tell the same rows in lists of their own."""
    return [list(row) for row in rows]


def mirrored(rows):
    """Tell the picture with left and right exchanged."""
    return [row[::-1] for row in rows]


def turned(rows):
    """Tell the picture turned by a quarter to the left: the last column becomes the first row."""
    return [[row[at] for row in rows] for at in range(width(rows) - 1, -1, -1)]


def moved(rows, way):
    """Tell the picture mirrored where the way's side is 1, and then turned as often as the way says."""
    turns, side = way
    picture = mirrored(rows) if side == 1 else copied(rows)
    for _ in range(turns):
        picture = turned(picture)
    return picture


def difference(one, other):
    """Tell the sum, over all cells, of how much the cells of two pictures of one size differ."""
    return sum([
        abs(mine - theirs)
        for row, other_row in zip(one, other)
        for mine, theirs in zip(row, other_row)
    ])


def divides(size, high, wide):
    """Tell whether squares of this size fill a picture of this height and width."""
    return size >= 1 and high % size == 0 and wide % size == 0


def square_sum(rows, top, left, size):
    """Tell the sum of the square of this size whose left upper cell is at top and left."""
    return sum([sum(row[left:left + size]) for row in rows[top:top + size]])


def small(rows, size):
    """Tell the rows of the sums of the squares of this size; BadPicture where it does not divide both sides."""
    high = len(rows)
    wide = width(rows)
    if not divides(size, high, wide):
        raise BadPicture(f"squares of {size} do not fill a picture of {high} by {wide}")
    return [
        [square_sum(rows, top, left, size) for left in range(0, wide, size)]
        for top in range(0, high, size)
    ]
