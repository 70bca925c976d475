"""Shelves: pictures of one size, kept by names and hung behind one another by likeness."""

from likeshelf.errors import BadName, BadShelf, Full, Told, Unknown
from likeshelf.likeness import apart, kind_fits
from likeshelf.pictures import can_be_side, copied, need_picture_of

MOST_LETTERS = 8
MOST_PICTURES = 60


def is_name(name):
    """Tell whether a text is one to eight small letters, a to z."""
    return 1 <= len(name) <= MOST_LETTERS and all(["a" <= letter <= "z" for letter in name])


def can_be_shelf(high, wide, kind):
    """Tell whether there can be a shelf of this height and width with this kind of likeness."""
    return can_be_side(high) and can_be_side(wide) and kind_fits(kind, high, wide)


class Shelf:
    """Pictures of one height and width, by their names, and one kind of likeness for them."""

    def __init__(self, high, wide, kind):
        if not can_be_shelf(high, wide, kind):
            raise BadShelf(f"there is no shelf of {high} by {wide} by {kind!r}")
        self.high = high
        self.wide = wide
        self.kind = kind
        # From name to rows, in the order in which they were put: a name that is put again comes last.
        self._kept = {}

    def put(self, name, rows):
        """Keep a copy of a picture under a name."""
        if not is_name(name):
            raise BadName(f"{name!r} is not one to eight small letters")
        if name in self._kept:
            raise Told(f"{name} stands there already")
        need_picture_of(rows, self.high, self.wide)
        if len(self._kept) >= MOST_PICTURES:
            raise Full(f"there are {MOST_PICTURES} pictures already")
        self._kept[name] = copied(rows)

    def out(self, name):
        """Take out the picture that stands under a name."""
        self._need_kept(name)
        del self._kept[name]

    def names(self):
        """Tell the names of all pictures in the order in which they were put."""
        return list(self._kept)

    def picture(self, name):
        """Tell a copy of the picture that stands under a name."""
        self._need_kept(name)
        return copied(self._kept[name])

    def tree(self):
        """Tell how the pictures hang, (name, branches) of the first one, or None where there are none."""
        return self._hung(self.names())

    def _need_kept(self, name):
        """Refuse with Unknown a name under which nothing stands."""
        if name not in self._kept:
            raise Unknown(f"nothing stands under {name!r}")

    def _hung(self, names):
        """Tell how the pictures of these names hang behind the first one of them."""
        if not names:
            return None
        first = names[0]
        by_far = {}
        for name in names[1:]:
            far, _ = apart(self._kept[first], self._kept[name], self.kind)
            by_far.setdefault(far, []).append(name)
        return first, [(far, self._hung(by_far[far])) for far in sorted(by_far)]
