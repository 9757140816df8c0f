"""A bench: a shelf with a stand that goes on by pushes, and a wish."""

from pushshelf.errors import NoPush, NoWish
from pushshelf.fewest import shortest_row
from pushshelf.shelves import is_push, leftmost, need_stand, pushed, rightmost


def copied(numbers):
    """A tuple of its own with the same numbers."""
    return tuple(list(numbers))


class Bench:
    """A shelf, where its blocks stand, what all pushes so far do, how many there were, and the wish."""

    def __init__(self, shelf, stand):
        need_stand(shelf, stand)
        room, blocks = shelf
        self.shelf = (room, copied(blocks))
        self.now = copied(stand)
        # The doing of all pushes is where they lead the outermost stands: no push is kept.
        self.least = leftmost(shelf)
        self.greatest = rightmost(shelf)
        self.many = 0
        self.wish = None

    def push(self, thing):
        """Do a push."""
        if not is_push(self.shelf, thing):
            raise NoPush("this is no push on the shelf")
        self.now = pushed(self.shelf, self.now, thing)
        self.least = pushed(self.shelf, self.least, thing)
        self.greatest = pushed(self.shelf, self.greatest, thing)
        self.many += 1

    def set_wish(self, wish):
        """Set the stand that is wished for."""
        need_stand(self.shelf, wish)
        self.wish = copied(wish)

    def stand(self):
        """Where the blocks stand now."""
        return self.now

    def doing(self):
        """The doing of all pushes so far."""
        return (self.least, self.greatest)

    def pushes(self):
        """How many pushes were done."""
        return self.many

    def fewest(self):
        """The least number of pushes from here to the wish."""
        if self.wish is None:
            raise NoWish("no wish was set")
        return len(shortest_row(self.shelf, self.now, self.wish))

    def __len__(self):
        return len(self.shelf[1])

    def __eq__(self, other):
        return (
            isinstance(other, Bench) and self.shelf == other.shelf and self.now == other.now
            and self.least == other.least and self.greatest == other.greatest
            and self.many == other.many and self.wish == other.wish
        )
