"""The refusals: one class for each kind, all under ShelfError."""


class ShelfError(ValueError):
    """Any refusal."""


class NoShelf(ShelfError):
    """What was handed in is no shelf."""


class NoStand(ShelfError):
    """What was handed in is no stand of the shelf."""


class NoRow(ShelfError):
    """What was handed in is no row of pushes on the shelf."""


class NoDoing(ShelfError):
    """What was handed in is no doing on the shelf."""


class NoPush(ShelfError):
    """What was handed in is no push on the shelf."""


class NoWish(ShelfError):
    """No wish was set."""
