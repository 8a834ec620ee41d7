"""A shelf: a desk's albums of one list, by their names, and how to undo what is done to them."""

from hingemount.albums import Album
from hingemount.errors import Missing, NoList, NothingDone
from hingemount.lists import is_list


class Shelf:
    """Albums by names. They are never changed, but others put in their places, so that all can be undone."""

    def __init__(self, book):
        if not is_list(book):
            raise NoList("no list of sets")
        self._book = book
        self._albums = {}
        # For each deed the tuples (name, album) that were there ahead of it, None for no album.
        self._done = []

    def names(self):
        return sorted(self._albums)

    def has(self, name):
        return name in self._albums

    def album(self, name):
        if name not in self._albums:
            raise Missing("no album of this name")
        return self._albums[name]

    def fresh(self, name):
        """Tell an album of the list without stamps, that isn't there yet."""
        return Album(self._book, name)

    def change(self, changes):
        """Do one deed: tuples (name, album), None for no album."""
        self._done.append([(name, self._albums.get(name)) for name, _ in changes])
        self._place(changes)

    def undo(self):
        if not self._done:
            raise NothingDone("no deed to undo")
        self._place(self._done.pop())

    def _place(self, changes):
        for name, album in changes:
            if album is None:
                del self._albums[name]
            else:
                self._albums[name] = album
