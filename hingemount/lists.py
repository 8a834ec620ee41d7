"""Lists of sets of stamps, and the stamps of a list."""

from hingemount.kinds import is_letters, is_rising, is_tuple, is_whole_within

HINGED = 0
WHOLE = 1


def is_year(thing):
    return is_whole_within(thing, 1840, 2100)


def is_set(thing):
    """Tell whether a thing is a set: a tuple (land, year, many)."""
    if not is_tuple(thing, 3, 3):
        return False
    land, year, many = thing
    return is_letters(land, 1, 8) and is_year(year) and is_whole_within(many, 1, 6)


def is_list(thing):
    if not is_tuple(thing, 1, 4) or not all([is_set(part) for part in thing]):
        return False
    # Land and year alone have to rise, for no two sets may share both.
    return is_rising([part[:2] for part in thing])


def is_set_number(book, thing):
    return is_whole_within(thing, 0, len(book) - 1)


def is_place(book, thing):
    """Tell whether a thing is a stamp's place: a tuple (set, number)."""
    if not is_tuple(thing, 2, 2):
        return False
    at, number = thing
    return is_set_number(book, at) and is_whole_within(number, 0, book[at][2] - 1)


def is_stamp(book, thing):
    if not is_tuple(thing, 3, 3):
        return False
    return is_place(book, thing[:2]) and is_whole_within(thing[2], HINGED, WHOLE)


def all_stamps(book):
    return [
        (at, number, grade)
        for at, part in enumerate(book)
        for number in range(part[2])
        for grade in (HINGED, WHOLE)
    ]


def places_many(book):
    return sum([part[2] for part in book])
