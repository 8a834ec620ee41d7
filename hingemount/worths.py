"""Worths: what stamps and albums are worth, by prices of any year."""

from hingemount.errors import NoNumber, NoPrice, NoPrices, NoStamp
from hingemount.kinds import is_each_once, is_tuple, is_whole_within
from hingemount.lists import HINGED, is_place, is_stamp, is_year


def is_price(book, thing):
    """Tell whether a thing is a tuple (set, number, year, pence)."""
    if not is_tuple(thing, 4, 4):
        return False
    return is_place(book, thing[:2]) and is_year(thing[2]) and is_whole_within(thing[3], 0, 1000000)


def is_prices(book, thing):
    if not is_tuple(thing, 0, 40) or not all([is_price(book, part) for part in thing]):
        return False
    return is_each_once([part[:3] for part in thing])


def check_prices(book, prices):
    if not is_prices(book, prices):
        raise NoPrices("no tuple of at most forty prices of the list")


def check_year(year):
    if not is_year(year):
        raise NoNumber("no year from 1840 to 2100")


def price_in(prices, place, year):
    known = [(since, pence) for at, number, since, pence in prices if (at, number) == place and since <= year]
    if not known:
        raise NoPrice("the place has no price in the year")
    return max(known)[1]


def halves_in(prices, stamp, year):
    """Tell how many half pence a stamp is worth, for a hinged one may be worth half a penny."""
    pence = price_in(prices, stamp[:2], year)
    return pence if stamp[2] == HINGED else 2 * pence


def as_worth(halves):
    """Tell half pence, also below 0, as a tuple (pence, halves)."""
    return divmod(halves, 2)


def worth_of(album, prices, stamp, year=2100):
    check_prices(album.book(), prices)
    if not is_stamp(album.book(), stamp):
        raise NoStamp("no stamp of the list")
    check_year(year)
    return as_worth(halves_in(prices, stamp, year))


def worth_by(album, prices, year=2100):
    """Tell the worth of all stamps of an album together."""
    check_prices(album.book(), prices)
    check_year(year)
    return as_worth(sum([many * halves_in(prices, stamp, year) for stamp, many in album.all_of()]))
