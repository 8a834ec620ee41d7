"""What a desk tells of its albums, with nothing changed."""

from hingemount.papers import most_gaps
from hingemount.writing import in_figures


def spaced(words):
    """Write several things with one blank between, `none` for nothing."""
    return " ".join(words) if words else "none"


def names_told(shelf):
    return spaced(shelf.names())


def album_shown(shelf, name):
    return str(shelf.album(name)).replace("\n", " / ")


def gaps_told(shelf, name, place):
    return spaced([str(number) for number in shelf.album(name).gaps(place)])


def whole_told(shelf, name):
    return spaced([str(at) for at in shelf.album(name).whole_sets()])


def stamp_word(stamp):
    at, number, grade = stamp
    return f"{at}.{number}.{grade}"


def doubles_told(shelf, name):
    return spaced([f"{stamp_word(stamp)}*{in_figures(many)}" for stamp, many in shelf.album(name).doubles()])


def most_told(shelf):
    names = shelf.names()
    _, many, exchange, _ = most_gaps(tuple([shelf.album(name) for name in names]))
    gives = [f"{names[giver]}>{names[taker]}:{stamp_word(stamp)}" for giver, taker, stamp in exchange]
    return " ".join([str(many), *gives])


LOOKS = {
    "names": names_told,
    "show": album_shown,
    "gaps": gaps_told,
    "whole": whole_told,
    "doubles": doubles_told,
    "most": most_told,
}


def look_told(shelf, word, parts):
    look = LOOKS[word]
    return look(shelf, *parts)
