"""How many stands and doings a shelf has, and how many stands a doing leads to one."""

from pushshelf.doings import need_doing
from pushshelf.shelves import need_shelf, need_stand, places_of, play_of


def choices(total, many):
    """In how many ways so many things can be chosen out of a total."""
    ways = 1
    for step in range(many):
        ways = ways * (total - step) // (step + 1)
    return ways


def stands(shelf):
    """How many stands the shelf has."""
    need_shelf(shelf)
    many = len(shelf[1])
    # Places rise along the blocks, from 0 to the play: a choice of places that may be taken again.
    return choices(play_of(shelf) + many, many)


def doings(shelf):
    """How many doings the shelf has."""
    need_shelf(shelf)
    many = len(shelf[1])
    total = play_of(shelf) + many
    # A stand is a path of one step for each block and for each piece of the play. Where the
    # least path goes above the greatest one, the two swap what follows the first such step:
    # so these pairs are as many as those of paths with one block less and one block more.
    crossing = choices(total, many - 1) * choices(total, many + 1)
    return choices(total, many) * choices(total, many) - crossing


def sources(low, place, high, play):
    """The least and the greatest place from which a block comes to its place."""
    first = 0 if place == low else place
    last = play if place == high else place
    return (first, last)


def with_next_block(ways, first, last):
    """From the ways to each place of a block to those of the next one, which lies within first and last."""
    told = []
    total = 0
    for place, many in enumerate(ways):
        total += many
        told.append(total if first <= place <= last else 0)
    return told


def leading(shelf, doing, stand):
    """How many stands the doing leads to the stand."""
    need_doing(shelf, doing)
    need_stand(shelf, stand)
    play = play_of(shelf)
    least = places_of(shelf, doing[0])
    greatest = places_of(shelf, doing[1])
    ways = [1] + [0] * play
    for low, place, high in zip(least, places_of(shelf, stand), greatest):
        if not low <= place <= high:
            return 0
        first, last = sources(low, place, high, play)
        ways = with_next_block(ways, first, last)
    return sum(ways)
