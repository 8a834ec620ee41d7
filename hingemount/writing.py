"""How numbers, lists and albums are written."""

GRADE_WORDS = ("hinged", "whole")


def in_figures(number):
    """Write a whole number from 0 on.

    Joined albums can hold more of a stamp than str() writes of a number, so
    a long number is written piece by piece.
    """
    pieces = []
    left = number
    while left >= 10 ** 60:
        left, piece = divmod(left, 10 ** 60)
        pieces.append(str(piece).zfill(60))
    pieces.append(str(left))
    return "".join(pieces[::-1])


def list_words(book):
    return ";".join([f"{land} {year} {many}" for land, year, many in book])


def stamp_row(stamp, many):
    at, number, grade = stamp
    return f"{at}.{number} {GRADE_WORDS[grade]} {in_figures(many)}"


def album_rows(name, book, counts):
    """Write an album's rows; counts are its tuples (stamp, many), rising."""
    head = f"album {name}" if name else "album"
    stamps = [stamp_row(stamp, many) for stamp, many in counts]
    return [head, f"list {list_words(book)}", *stamps]
