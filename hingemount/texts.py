"""Texts: lists and albums written, and albums read from what writes them."""

from hingemount.albums import filled
from hingemount.errors import NoText
from hingemount.kinds import is_letters, is_whole_from
from hingemount.lists import is_list, is_stamp
from hingemount.reading import grade_in, number_in, sets_in
from hingemount.writing import list_words


def list_text(book):
    return list_words(book)


def album_text(album):
    return str(album)


def name_read(row):
    """Read an album's name from its first row."""
    word, _, name = row.partition(" ")
    if word != "album" or not is_letters(name, 0, 8):
        raise NoText("no row with the name of an album")
    return name


def book_read(row):
    """Read an album's list from its second row."""
    word, _, rest = row.partition(" ")
    book = sets_in(rest)
    if word != "list" or not is_list(book):
        raise NoText("no row with a list")
    return book


def count_read(book, row):
    """Read a tuple (stamp, many) from a stamp's row."""
    place, _, rest = row.partition(" ")
    at, _, number = place.partition(".")
    grade, _, figures = rest.partition(" ")
    stamp = (number_in(at), number_in(number), grade_in(grade))
    many = number_in(figures)
    if not is_stamp(book, stamp) or not is_whole_from(many, 1):
        raise NoText("no row with how many there are of a stamp")
    return stamp, many


def album_read(text):
    """Read an album from what writes it."""
    if not isinstance(text, str):
        raise NoText("no text")
    rows = text.split("\n")
    if len(rows) < 2:
        raise NoText("no rows with the name and the list of an album")
    name = name_read(rows[0])
    book = book_read(rows[1])
    album = filled(book, name, [count_read(book, row) for row in rows[2:]])
    # A row twice or out of order, or a blank behind `album`, is read, but written otherwise.
    if album_text(album) != text:
        raise NoText("no text of an album")
    return album
