"""Things of whatever kind, and lists that many tests ask for."""

BOOK = (("aland", 1900, 2), ("aland", 1901, 1), ("bland", 1880, 3))
ONE = (("x", 1900, 1),)
FORTY = int("9" * 40)


def deep(levels, inner=0):
    thing = inner
    for _ in range(levels):
        thing = (thing,)
    return thing


def state(album):
    return album.book(), album.called(), album.all_of()


def otherwise(text, signs):
    """All texts with one sign less, one more or one otherwise than this one."""
    for at in range(len(text) + 1):
        yield text[:at] + text[at + 1:]
        for sign in signs:
            yield text[:at] + sign + text[at:]
            yield text[:at] + sign + text[at + 1:]


# None of these is a list, a stamp, a set's number of BOOK, a tuple of stamps or of sets, a
# whole number from 0 on, prices, owners, deals, a chain, offers, places, friends, an exchange,
# a paper, a tuple of albums, a word to sort by, a text of an album or a row for a desk.
NOTHINGS = (
    True,
    False,
    -1,
    -(10 ** 39),
    "0",
    "x 1900 1",
    "A",
    "abcdefghi",
    "x" * 2000,
    [],
    [0],
    [0, 0, 0],
    [1],
    {},
    {0: 0},
    {"x": 1},
    (None,),
    (True,),
    (False, False, False),
    ("x",),
    ("x", 1900, 1),
    ([],),
    ({},),
    ((),),
    deep(20),
    deep(20, "x"),
    tuple([None] * 8000),
    [(0, 0, 0)],
    [("x", 1900, 1)],
)
