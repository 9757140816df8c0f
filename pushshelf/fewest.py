"""The fewest pushes from a stand to another one, and a row of so many."""

from pushshelf.shelves import done, gap_length, is_row, need_stand, places_of


class Band:
    """Blocks that are to have one place, and whether some of them are to go up or down to it."""

    def __init__(self, first, beyond, place, up, down):
        self.first = first
        self.beyond = beyond
        self.place = place
        self.up = up
        self.down = down


def band_from(now, wished, first):
    """The band that begins with the block first."""
    place = wished[first]
    # Places rise along the blocks: alike ones lie together, and a band's outer blocks are its outermost.
    beyond = first + wished.count(place)
    return Band(first, beyond, place, now[first] < place, now[beyond - 1] > place)


def bands_of(shelf, stand, wish):
    """The bands of the wish, from left to right."""
    now = places_of(shelf, stand)
    wished = places_of(shelf, wish)
    bands = []
    first = 0
    while first < len(wished):
        band = band_from(now, wished, first)
        bands.append(band)
        first = band.beyond
    return bands


def raised(shelf, gap, place):
    """The push that leaves no block beyond the gap below the place."""
    return ("right", gap, gap_length(shelf, gap) + place)


def lowered(shelf, gap, place):
    """The push that leaves no block ahead of the gap above the place."""
    return ("left", gap, gap_length(shelf, gap) + place)


def row_alone(shelf, band):
    """A row that brings a band to its place by itself."""
    row = []
    if band.up:
        row.append(raised(shelf, band.first, band.place))
    if band.down:
        row.append(lowered(shelf, band.beyond, band.place))
    return row


def row_served_by_last(shelf, bands):
    """A row that shoves all up to the place of the last band, then each other one down from there."""
    row = [raised(shelf, bands[0].first, bands[-1].place)]
    for band in bands[:-1]:
        row.append(lowered(shelf, band.beyond, band.place))
    return row


def row_served_by_first(shelf, bands):
    """A row that shoves all down to the place of the first band, then each other one up from there."""
    server = bands[0]
    row = [lowered(shelf, bands[-1].beyond, server.place)]
    if server.up:
        row.append(raised(shelf, server.first, server.place))
    for band in bands[1:]:
        row.append(raised(shelf, band.first, band.place))
    return row


def row_together(shelf, bands):
    """A shortest row for one band alone, or for several ones with a server."""
    if len(bands) == 1:
        return row_alone(shelf, bands[0])
    # The first band serves with two pushes at most, and none between serves with fewer:
    # so the last one is needed only where it serves with one.
    if not bands[-1].down:
        return row_served_by_last(shelf, bands)
    return row_served_by_first(shelf, bands)


def shortest_row(shelf, stand, wish):
    """A row of the fewest pushes from the stand to the wish; nothing is refused here."""
    bands = bands_of(shelf, stand, wish)
    # A push of some bands never brings a block of another one to, off or across its place:
    # so the rows of the parts go one behind the other.
    rows = [[]]
    for many in range(1, len(bands) + 1):
        ways = [rows[ahead] + row_together(shelf, bands[ahead:many]) for ahead in range(many)]
        rows.append(min(ways, key=len))
    return rows[-1]


def need_both(shelf, stand, wish):
    """Refuse what is no shelf, no stand or no wish, in this order."""
    need_stand(shelf, stand)
    need_stand(shelf, wish)


def fewest(shelf, stand, wish):
    """The least number of pushes that lead from the stand to the wish."""
    need_both(shelf, stand, wish)
    return len(shortest_row(shelf, stand, wish))


def pushes_to(shelf, stand, wish):
    """A row of the fewest pushes that leads from the stand to the wish."""
    need_both(shelf, stand, wish)
    return shortest_row(shelf, stand, wish)


def leads(shelf, stand, wish, thing):
    """Whether thing is a row that leads from the stand to the wish."""
    need_both(shelf, stand, wish)
    return is_row(shelf, thing) and done(shelf, stand, thing) == wish
