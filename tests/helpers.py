"""What the tests share: small shelves with all they hold, and things of all kinds."""

from itertools import combinations_with_replacement

SHELVES = [
    (7, (7,)),
    (9, (5,)),
    (3, (1, 2)),
    (7, (2, 1)),
    (9, (3, 1, 2)),
    (8, (1, 1, 1, 2)),
]
TINY_SHELVES = [(4, (2,)), (5, (1, 2)), (6, (2, 1, 1))]
EIGHT = (8 * 50 + 400, (50,) * 8)


def lengths_ahead(shelf):
    ahead = [0]
    for length in shelf[1]:
        ahead.append(ahead[-1] + length)
    return ahead


def play(shelf):
    return shelf[0] - sum(shelf[1])


def all_stands(shelf):
    ahead = lengths_ahead(shelf)
    return [
        tuple(place + ahead[at] for at, place in enumerate(places))
        for places in combinations_with_replacement(range(play(shelf) + 1), len(shelf[1]))
    ]


def all_pushes(shelf):
    ahead = lengths_ahead(shelf)
    many = len(shelf[1])
    gaps = [("right", gap) for gap in range(many)] + [("left", gap) for gap in range(1, many + 1)]
    return [(side, gap, ahead[gap] + by) for side, gap in gaps for by in range(play(shelf) + 1)]


def all_doings(shelf):
    stands = all_stands(shelf)
    return [
        (least, greatest)
        for least in stands
        for greatest in stands
        if all(low <= high for low, high in zip(least, greatest))
    ]


def short_rows(shelf):
    """The empty row, and all rows of one push and of two."""
    pushes = all_pushes(shelf)
    return [[]] + [[push] for push in pushes] + [[one, two] for one in pushes for two in pushes]


def nearest_stand(shelf, stand, push):
    """The stand behind a push, sought among all stands by the words of the document."""
    side, gap, place = push
    if side == "right":
        reached = [
            to for to in all_stands(shelf)
            if to[:gap] == stand[:gap] and to[gap] >= place and all(a <= b for a, b in zip(stand, to))
        ]
        return min(reached, key=sum)
    reached = [
        to for to in all_stands(shelf)
        if to[gap:] == stand[gap:] and to[gap - 1] + shelf[1][gap - 1] <= place
        and all(a >= b for a, b in zip(stand, to))
    ]
    return max(reached, key=sum)


def any_stand(chance, shelf):
    ahead = lengths_ahead(shelf)
    places = sorted(chance.randint(0, play(shelf)) for length in shelf[1])
    return tuple(place + ahead[at] for at, place in enumerate(places))


def any_row(chance, shelf, many):
    ahead = lengths_ahead(shelf)
    row = []
    for step in range(many):
        side = chance.choice(["right", "left"])
        gap = chance.randrange(len(shelf[1])) + (side == "left")
        row.append((side, gap, ahead[gap] + chance.randint(0, play(shelf))))
    return row


def any_doing(chance, shelf):
    one, two = any_stand(chance, shelf), any_stand(chance, shelf)
    return (tuple(map(min, one, two)), tuple(map(max, one, two)))


def any_shelf(chance, many):
    blocks = tuple(chance.randint(1, 50) for step in range(many))
    return (sum(blocks) + chance.choice([0, 1, 7, 400]), blocks)


def mirrored_shelf(shelf):
    return (shelf[0], shelf[1][::-1])


def mirrored_stand(shelf, stand):
    return tuple(shelf[0] - left - length for left, length in zip(stand, shelf[1]))[::-1]


def mirrored_doing(shelf, doing):
    least, greatest = doing
    return (mirrored_stand(shelf, greatest), mirrored_stand(shelf, least))


def mirrored_row(shelf, row):
    other = {"right": "left", "left": "right"}
    return [(other[side], len(shelf[1]) - gap, shelf[0] - place) for side, gap, place in row]


def places(shelf, stand):
    return [left - ahead for left, ahead in zip(stand, lengths_ahead(shelf))]


def stand_at(shelf, places):
    return tuple(place + ahead for place, ahead in zip(places, lengths_ahead(shelf)))


def nested(kind, depth):
    thing = kind([1])
    for step in range(depth - 1):
        thing = kind([thing])
    return thing


# None of these is a shelf, a stand, a row, a push or a doing of any shelf.
ODD_THINGS = [
    0, 1, -1, 10 ** 40 - 1, 1 - 10 ** 40, True, False, None,
    "", "right", "left", "~" * 200, "(9, (5,))",
    (), (None,), (None, None), ("right", 0), (1, 2, 3, None), ("", ""), ((), ()), ([], []),
    ((), (), ()), ("right", "left", "right"), (True, (True,)), (9, ()), (9, 5), (9, None), (9, "5"), ((9, (5,)),),
    [None], [[]], [()], [True], ["right"], [0], [0, 4], [9, [5]], [[0], [4]],
    nested(list, 10), nested(tuple, 10),
]
