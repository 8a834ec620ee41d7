"""Bundles: the fewest doubles to give for offers that make a set whole."""

from hingemount.albums import doubles_many
from hingemount.errors import NoOffers
from hingemount.kinds import is_rising_within, is_tuple, is_whole_within


def is_offer(thing):
    """Tell whether a thing is a tuple (numbers, doubles)."""
    if not is_tuple(thing, 2, 2):
        return False
    numbers, doubles = thing
    if not is_tuple(numbers, 1, 6) or not is_rising_within(numbers, 0, 5):
        return False
    return is_whole_within(doubles, 1, 99)


def gaps_for(album, place, offers):
    """Tell the gaps of the set, where both the set and the offers are such."""
    gaps = album.gaps(place)
    if not is_tuple(offers, 0, 10) or not all([is_offer(part) for part in offers]):
        raise NoOffers("no tuple of at most ten offers")
    return gaps


def ways_to_take(gaps, offers):
    """Tell all ways to take some offers, as tuples (doubles, taken, gaps left)."""
    ways = [(0, (), gaps)]
    for at, offer in enumerate(offers):
        numbers, wanted = offer
        ways = ways + [
            (doubles + wanted, taken + (at,), [gap for gap in left if gap not in numbers])
            for doubles, taken, left in ways
        ]
    return ways


def fewest_for(album, place, offers):
    """Tell (doubles, taken) of the cheapest way to make a set whole; None where there is none."""
    gaps = gaps_for(album, place, offers)
    whole = [(doubles, taken) for doubles, taken, left in ways_to_take(gaps, offers) if not left]
    if not whole:
        return None
    fewest = min(whole)
    return fewest if fewest[0] <= doubles_many(album) else None


def makes_whole(album, place, offers, thing):
    gaps = gaps_for(album, place, offers)
    if not is_rising_within(thing, 0, len(offers) - 1):
        return False
    filled = [number for at in thing for number in offers[at][0]]
    return all([gap in filled for gap in gaps])
