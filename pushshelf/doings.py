"""Doings: what a row does to each block, from whatever stand it starts."""

from pushshelf.errors import NoDoing
from pushshelf.shelves import done, is_stand, is_tuple_of, leftmost, need_row, need_shelf, need_stand, rightmost


def doing_of(shelf, row):
    """The doing of a row."""
    need_row(shelf, row)
    # A doing leads the outermost stands to its least and to its greatest one.
    return (done(shelf, leftmost(shelf), row), done(shelf, rightmost(shelf), row))


def is_doing(shelf, thing):
    """Whether thing is a doing on the shelf."""
    need_shelf(shelf)
    if not is_tuple_of(thing, 2):
        return False
    least, greatest = thing
    if not is_stand(shelf, least) or not is_stand(shelf, greatest):
        return False
    return all([low <= high for low, high in zip(least, greatest)])


def need_doing(shelf, thing):
    """Refuse thing unless it is a doing; the shelf is refused ahead of it."""
    if not is_doing(shelf, thing):
        raise NoDoing("this is no doing on the shelf")


def held_within(doing, stand):
    """The stand to which a doing leads; nothing is refused here."""
    least, greatest = doing
    return tuple([min(max(left, low), high) for low, left, high in zip(least, stand, greatest)])


def led(shelf, doing, stand):
    """The stand to which a doing leads."""
    need_doing(shelf, doing)
    need_stand(shelf, stand)
    return held_within(doing, stand)


def joined(shelf, doing, second):
    """The doing of two, the second one behind the other."""
    need_doing(shelf, doing)
    need_doing(shelf, second)
    least, greatest = doing
    return (held_within(second, least), held_within(second, greatest))


def row_for(shelf, doing):
    """A row of two pushes for each block whose doing this is."""
    need_doing(shelf, doing)
    least, greatest = doing
    row = []
    # Least and greatest places rise along the blocks, so what one block's pushes
    # ask of another one never goes beyond what its own pushes ask of it.
    for at, length in enumerate(shelf[1]):
        row.append(("right", at, least[at]))
        row.append(("left", at + 1, greatest[at] + length))
    return row


def parted(shelf, row, other):
    """A stand from which the two rows lead to unlike ones, or None."""
    need_row(shelf, row)
    need_row(shelf, other)
    # Rows that do the same from both outermost stands have one doing.
    for stand in (leftmost(shelf), rightmost(shelf)):
        if done(shelf, stand, row) != done(shelf, stand, other):
            return stand
    return None


def alike(shelf, row, other):
    """Whether the two rows do the same from every stand."""
    return parted(shelf, row, other) is None
