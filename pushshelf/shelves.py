"""Shelves, stands, pushes and rows, and the stand behind a row."""

from pushshelf.errors import NoRow, NoShelf, NoStand

MOST_BLOCKS = 8
MOST_LENGTH = 50
MOST_PLAY = 400
MOST_PUSHES = 200


def is_whole(thing):
    """Whether thing is a whole number."""
    # Python counts True and False as integers, the document does not.
    return isinstance(thing, int) and not isinstance(thing, bool)


def is_within(thing, low, high):
    """Whether thing is a whole number from low to high."""
    return is_whole(thing) and low <= thing <= high


def is_tuple_of(thing, many):
    """Whether thing is a tuple of so many parts."""
    return isinstance(thing, tuple) and len(thing) == many


def are_blocks(thing):
    """Whether thing is a tuple of lengths that a shelf can hold."""
    if not isinstance(thing, tuple) or not 1 <= len(thing) <= MOST_BLOCKS:
        return False
    return all([is_within(length, 1, MOST_LENGTH) for length in thing])


def is_shelf(thing):
    """Whether thing is a shelf."""
    if not is_tuple_of(thing, 2):
        return False
    room, blocks = thing
    if not are_blocks(blocks):
        return False
    total = sum(blocks)
    return is_within(room, total, total + MOST_PLAY)


def need_shelf(thing):
    """Refuse thing unless it is a shelf."""
    if not is_shelf(thing):
        raise NoShelf("this is no shelf")


def play_of(shelf):
    """The room that no block takes."""
    room, blocks = shelf
    return room - sum(blocks)


def gap_length(shelf, gap):
    """The length of all blocks ahead of the gap."""
    return sum(shelf[1][:gap])


def places_of(shelf, stand):
    """Of each block its left end less the lengths ahead of it."""
    return [left - gap_length(shelf, at) for at, left in enumerate(stand)]


def packed(shelf, start):
    """The stand with all blocks close together from start on."""
    return tuple([start + gap_length(shelf, at) for at in range(len(shelf[1]))])


def leftmost(shelf):
    """The stand with every block as far left as it can be."""
    return packed(shelf, 0)


def rightmost(shelf):
    """The stand with every block as far right as it can be."""
    return packed(shelf, play_of(shelf))


def is_stand(shelf, thing):
    """Whether thing is a stand of the shelf."""
    need_shelf(shelf)
    room, blocks = shelf
    if not is_tuple_of(thing, len(blocks)):
        return False
    edge = 0
    for left, length in zip(thing, blocks):
        if not is_whole(left) or left < edge:
            return False
        edge = left + length
    return edge <= room


def need_stand(shelf, thing):
    """Refuse thing unless it is a stand; the shelf is refused ahead of it."""
    if not is_stand(shelf, thing):
        raise NoStand("this is no stand of the shelf")


def is_gap(shelf, side, thing):
    """Whether a hand that pushes to that side has a block to push in the gap thing."""
    many = len(shelf[1])
    if side == "right":
        return is_within(thing, 0, many - 1)
    if side == "left":
        return is_within(thing, 1, many)
    return False


def is_push(shelf, thing):
    """Whether thing is a push on the shelf, which must be one."""
    if not is_tuple_of(thing, 3):
        return False
    side, gap, place = thing
    if not is_gap(shelf, side, gap):
        return False
    length = gap_length(shelf, gap)
    return is_within(place, length, length + play_of(shelf))


def is_row(shelf, thing):
    """Whether thing is a row of pushes on the shelf."""
    need_shelf(shelf)
    if not isinstance(thing, list) or len(thing) > MOST_PUSHES:
        return False
    return all([is_push(shelf, push) for push in thing])


def need_row(shelf, thing):
    """Refuse thing unless it is a row; the shelf is refused ahead of it."""
    if not is_row(shelf, thing):
        raise NoRow("this is no row of pushes on the shelf")


def pushed_right(blocks, stand, gap, place):
    """The stand behind a push to the right."""
    lefts = list(stand)
    edge = place
    for at in range(gap, len(blocks)):
        lefts[at] = max(lefts[at], edge)
        edge = lefts[at] + blocks[at]
    return tuple(lefts)


def pushed_left(blocks, stand, gap, place):
    """The stand behind a push to the left."""
    lefts = list(stand)
    edge = place
    for at in reversed(range(gap)):
        lefts[at] = min(lefts[at], edge - blocks[at])
        edge = lefts[at]
    return tuple(lefts)


def pushed(shelf, stand, push):
    """The stand behind one push; nothing is refused here."""
    side, gap, place = push
    if side == "right":
        return pushed_right(shelf[1], stand, gap, place)
    return pushed_left(shelf[1], stand, gap, place)


def done(shelf, stand, row):
    """The stand behind a row; nothing is refused here."""
    for push in row:
        stand = pushed(shelf, stand, push)
    return stand


def behind(shelf, stand, row):
    """The stand behind a row."""
    need_stand(shelf, stand)
    need_row(shelf, row)
    return done(shelf, stand, row)
