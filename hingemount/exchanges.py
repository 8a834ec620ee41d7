"""Exchanges: friends give doubles for what they lack, each as many as they get."""

from hingemount.albums import is_albums, lacked_by
from hingemount.errors import NoExchange, NoFriends, NoNumber
from hingemount.kinds import is_each_once, is_rising, is_tuple, is_whole, is_whole_from
from hingemount.lists import is_stamp
from hingemount.worths import as_worth, check_prices, check_year, halves_in


def check_friends(friends):
    if not is_albums(friends, 2, 4):
        raise NoFriends("no tuple of two to four albums of one list")


def doubles_by(friends):
    """Tell a dict of all doubles (friend, stamp), rising, with how many there are."""
    return {(at, stamp): many for at, friend in enumerate(friends) for stamp, many in friend.doubles()}


def gaps_by(friends):
    """Tell all gaps (friend, place), rising."""
    return [(at, place) for at, friend in enumerate(friends) for place in lacked_by(friend)]


def all_gives(friends):
    """Tell all gives that there can be, rising."""
    gaps = gaps_by(friends)
    # Whoever has a stamp among their doubles lacks it not, so giver and taker are never one.
    return sorted([
        (giver, taker, stamp)
        for giver, stamp in doubles_by(friends)
        for taker, place in gaps
        if place == stamp[:2]
    ])


def looks_like_give(book, thing):
    """Tell whether a thing is a tuple of two whole numbers and a stamp, for a truth would equal a number."""
    if not is_tuple(thing, 3, 3):
        return False
    giver, taker, stamp = thing
    return is_whole(giver) and is_whole(taker) and is_stamp(book, stamp)


def is_gives(friends, thing):
    """Tell whether a thing is a rising tuple of gives."""
    book = friends[0].book()
    if not isinstance(thing, tuple) or not all([looks_like_give(book, part) for part in thing]):
        return False
    able = all_gives(friends)
    return is_rising(thing) and all([give in able for give in thing])


def is_within_doubles(friends, gives):
    """Tell whether nobody gives a stamp oftener than it is among their doubles."""
    left = doubles_by(friends)
    for giver, _, stamp in gives:
        left[giver, stamp] -= 1
    return all([many >= 0 for many in left.values()])


def is_even(friends, gives):
    """Tell whether each friend gives as many as they get."""
    givers = [give[0] for give in gives]
    takers = [give[1] for give in gives]
    return all([givers.count(at) == takers.count(at) for at in range(len(friends))])


def is_exchange(friends, thing):
    check_friends(friends)
    if not is_gives(friends, thing) or not is_within_doubles(friends, thing):
        return False
    return is_each_once([(give[1], give[2][:2]) for give in thing]) and is_even(friends, thing)


def check_exchange(friends, exchange):
    if not is_exchange(friends, exchange):
        raise NoExchange("no exchange of the friends")


def exchanged(friends, exchange):
    """Tell the albums behind an exchange, new ones."""
    check_exchange(friends, exchange)
    told = [friend.twin() for friend in friends]
    for giver, taker, stamp in exchange:
        told[giver].take(stamp)
        told[taker].put(stamp)
    return told


def first_ring(gives):
    """Tell the ring that begins with the first of these gives, which even out and rise."""
    ring = [gives[0]]
    while ring[-1][1] != ring[0][0]:
        onward = [give for give in gives if give[0] == ring[-1][1] and give not in ring]
        ring.append(onward[0])
    return tuple(ring)


def rings_of(friends, exchange):
    check_exchange(friends, exchange)
    left = list(exchange)
    rings = []
    while left:
        ring = first_ring(left)
        rings.append(ring)
        left = [give for give in left if give not in ring]
    return rings


def check_gains(friends, exchange, prices, year):
    check_exchange(friends, exchange)
    check_prices(friends[0].book(), prices)
    check_year(year)


def halves_gained(friends, exchange, prices, year):
    """Tell how many half pence each friend gains, below 0 what they lose."""
    gained = [0] * len(friends)
    for giver, taker, stamp in exchange:
        halves = halves_in(prices, stamp, year)
        gained[giver] -= halves
        gained[taker] += halves
    return gained


def gains_by(friends, exchange, prices, year=2100):
    """Tell the worth that each friend gains."""
    check_gains(friends, exchange, prices, year)
    return tuple([as_worth(halves) for halves in halves_gained(friends, exchange, prices, year)])


def is_fair(friends, exchange, prices, year=2100, most=0):
    """Tell whether nobody loses more than most, whole pence."""
    check_gains(friends, exchange, prices, year)
    if not is_whole_from(most, 0):
        raise NoNumber("no whole number from 0 on")
    return all([halves + 2 * most >= 0 for halves in halves_gained(friends, exchange, prices, year)])
