"""The deeds of a desk: each tells which albums stand in which names' places behind it."""

from hingemount.errors import Same, Twice


def made(shelf, name):
    if shelf.has(name):
        raise Twice("there is an album of this name already")
    return [(name, shelf.fresh(name))]


def dropped(shelf, name):
    # Asked for its refusal alone.
    shelf.album(name)
    return [(name, None)]


def added(shelf, name, at, number, grade, many):
    album = shelf.album(name).twin()
    album.put((at, number, grade), many)
    return [(name, album)]


def taken(shelf, name, at, number, grade, many):
    album = shelf.album(name).twin()
    album.take((at, number, grade), many)
    return [(name, album)]


def given(shelf, giver, taker, at, number, grade):
    one = shelf.album(giver).twin()
    other = shelf.album(taker).twin()
    if giver == taker:
        raise Same("an album gives nothing to itself")
    one.take((at, number, grade))
    other.put((at, number, grade))
    return [(giver, one), (taker, other)]


DEEDS = {"new": made, "drop": dropped, "put": added, "take": taken, "give": given}


def is_deed(word):
    return word in DEEDS


def changes_by(shelf, word, parts):
    """Tell the tuples (name, album), None for no album, that a deed changes."""
    deed = DEEDS[word]
    return deed(shelf, *parts)
