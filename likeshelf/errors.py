"""All refusals of the program, each of its own kind."""


class LikeError(ValueError):
    """Any refusal."""


class BadPicture(LikeError):
    """What was handed in is no picture, or none of the size that is asked for."""


class BadShelf(LikeError):
    """There can be no shelf of such a size and kind of likeness."""


class BadName(LikeError):
    """A name is not one to eight small letters."""


class Told(LikeError):
    """A picture stands under this name already."""


class Unknown(LikeError):
    """No picture stands under this name."""


class Full(LikeError):
    """The shelf has no room for another picture."""


class BadText(LikeError):
    """A row of a text is not as it must be; the field row tells which one, from 0."""

    def __init__(self, row):
        LikeError.__init__(self, f"row {row} is not as it must be")
        self.row = row
