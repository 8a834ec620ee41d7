"""Sorting: copies of albums by what is told of them."""

from hingemount.albums import doubles_many, is_albums, lacked_by, stamps_many
from hingemount.errors import NoAlbums, NoWord
from hingemount.worths import worth_by

WORDS = ("name", "many", "gaps", "doubles", "worth")


def measured(word, album, prices):
    """Tell what an album is sorted by at this word."""
    if word == "name":
        return album.called()
    if word == "many":
        return stamps_many(album)
    if word == "gaps":
        return len(lacked_by(album))
    if word == "doubles":
        return doubles_many(album)
    return worth_by(album, prices)


def in_order(rows, back):
    """Sort tuples (measure, album); like ones stay as they stood, also where the greatest comes first."""
    if back:
        return sorted(rows, key=lambda row: row[0], reverse=True)
    return sorted(rows, key=lambda row: row[0])


def sorted_by(word, albums, prices=None, back=False):
    """Tell copies of albums, sorted by a word."""
    if word not in WORDS:
        raise NoWord("no word to sort by")
    if not is_albums(albums, 1, 6):
        raise NoAlbums("no tuple of one to six albums of one list")
    rows = [(measured(word, album, prices), album) for album in albums]
    return [row[1].twin() for row in in_order(rows, back)]
