"""Notes: shelves written as texts and read from them."""

from likeshelf.errors import BadText
from likeshelf.shelves import Shelf, is_name

SIDE_FIGURES = 2
CELL_FIGURES = 3


def written(shelf):
    """Tell a shelf as a text."""
    lines = [f"shelf {shelf.high} {shelf.wide} {shelf.kind}"]
    for name in shelf.names():
        lines.append(f"picture {name}")
        lines.extend([" ".join([str(cell) for cell in row]) for row in shelf.picture(name)])
    return "\n".join(lines)


def is_number(word, most):
    """Tell whether a word is a number of so many figures at the most, with no nought ahead of others."""
    # Not by isdigit, which takes the figures of other scripts, too.
    if not 1 <= len(word) <= most or not all(["0" <= figure <= "9" for figure in word]):
        return False
    return word[0] != "0" or word == "0"


def is_shelf_row(line):
    """Tell whether a row is one that a shelf begins with."""
    words = line.split(" ")
    if len(words) != 4:
        return False
    word, high, wide, kind = words
    return word == "shelf" and is_number(high, SIDE_FIGURES) and is_number(wide, SIDE_FIGURES) and is_name(kind)


def is_picture_row(line):
    """Tell whether a row is one that a picture begins with."""
    words = line.split(" ")
    return len(words) == 2 and words[0] == "picture" and is_name(words[1])


def is_cell_row(line, wide):
    """Tell whether a row is one of so many numbers."""
    words = line.split(" ")
    return len(words) == wide and all([is_number(word, CELL_FIGURES) for word in words])


def need_picture_rows(lines, high, wide):
    """Refuse with BadText the first row behind that of the shelf that is not so, or the first that is missing."""
    for at in range(1, len(lines)):
        if (at - 1) % (high + 1) == 0:
            fits = is_picture_row(lines[at])
        else:
            fits = is_cell_row(lines[at], wide)
        if not fits:
            raise BadText(at)
    if (len(lines) - 1) % (high + 1) != 0:
        raise BadText(len(lines))


def empty_shelf(line):
    """Tell the shelf without pictures of a first row, refused with BadText where it is not so."""
    if not is_shelf_row(line):
        raise BadText(0)
    _, high, wide, kind = line.split(" ")
    return Shelf(int(high), int(wide), kind)


def read(text):
    """Tell the shelf that a text writes."""
    lines = text.split("\n")
    shelf = empty_shelf(lines[0])
    need_picture_rows(lines, shelf.high, shelf.wide)
    for at in range(1, len(lines), shelf.high + 1):
        _, name = lines[at].split(" ")
        cells = lines[at + 1:at + 1 + shelf.high]
        shelf.put(name, [[int(word) for word in line.split(" ")] for line in cells])
    return shelf
