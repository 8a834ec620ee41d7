"""A desk: albums kept by names, told by rows what to do and what to tell."""

from hingemount.deeds import changes_by, is_deed
from hingemount.looks import look_told
from hingemount.rows import row_read
from hingemount.shelf import Shelf


class Desk:
    """At first it has no albums, of a list of one stamp."""

    def __init__(self):
        self._shelf = Shelf((("x", 1900, 1),))

    def say(self, row):
        """Do what a row says and answer it with a text."""
        word, parts = row_read(row)
        if word == "list":
            self._shelf = Shelf(parts)
        elif word == "undo":
            self._shelf.undo()
        elif is_deed(word):
            self._shelf.change(changes_by(self._shelf, word, parts))
        else:
            return look_told(self._shelf, word, parts)
        return "ok"
