"""The rows that a desk is told, word by word."""

from hingemount.errors import NoRow
from hingemount.kinds import is_letters
from hingemount.reading import grade_in, handed_number_in, sets_in

# What stands behind the first word of each row; that of `list` is read by itself.
FORMS = {
    "new": ("NAME",),
    "drop": ("NAME",),
    "put": ("NAME", "NUMBER", "NUMBER", "GRADE", "NUMBER"),
    "take": ("NAME", "NUMBER", "NUMBER", "GRADE", "NUMBER"),
    "give": ("NAME", "NAME", "NUMBER", "NUMBER", "GRADE"),
    "undo": (),
    "names": (),
    "show": ("NAME",),
    "gaps": ("NAME", "NUMBER"),
    "whole": ("NAME",),
    "doubles": ("NAME",),
    "most": (),
}


def part_in(kind, word):
    """Read a word of this kind, None where it is none."""
    if kind == "NAME":
        return word if is_letters(word, 1, 8) else None
    if kind == "GRADE":
        return grade_in(word)
    return handed_number_in(word)


def parts_in(word, rest):
    """Read the words behind a first word, None where they are not as its rows have them."""
    if word not in FORMS or len(rest) != len(FORMS[word]):
        return None
    parts = [part_in(kind, part) for kind, part in zip(FORMS[word], rest)]
    return None if None in parts else parts


def row_read(row):
    """Tell a row's first word, and what stands behind it as a list of names and numbers, or of sets."""
    if not isinstance(row, str):
        raise NoRow("no text")
    word, *rest = row.split(" ")
    parts = sets_in(row[len("list "):]) if word == "list" else parts_in(word, rest)
    if parts is None:
        raise NoRow("no row for a desk")
    return word, parts
