"""Things of whatever kind, and lists that many tests ask for."""

BOOK = (("aland", 1900, 2), ("aland", 1901, 1), ("bland", 1880, 3))
ONE = (("x", 1900, 1),)
FORTY = int("9" * 40)


def deep(levels, inner=0):
    thing = inner
    for _ in range(levels):
        thing = (thing,)
    return thing


def state(album):
    return album.book(), album.called(), album.all_of()


# None of these is a list, a stamp, a set's number of BOOK, a tuple of stamps or of sets, a
# whole number from 0 on, prices, owners, deals, a chain, offers, places, friends or an exchange.
NOTHINGS = (
    True,
    False,
    -1,
    -(10 ** 39),
    "0",
    "x 1900 1",
    "A",
    "abcdefghi",
    "x" * 2000,
    [],
    [0],
    [0, 0, 0],
    [1],
    {},
    {0: 0},
    {"x": 1},
    (None,),
    (True,),
    (False, False, False),
    ("x",),
    ("x", 1900, 1),
    ([],),
    ({},),
    ((),),
    deep(20),
    deep(20, "x"),
    tuple([None] * 8000),
    [(0, 0, 0)],
    [("x", 1900, 1)],
)
