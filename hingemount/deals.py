"""Deals: whose each stamp is, and which deals fall with a false one."""

from hingemount.errors import NoDeals, NoNumber, NoOwners
from hingemount.kinds import is_each_once, is_rising_within, is_tuple, is_whole_within


def is_owner(thing):
    return is_whole_within(thing, 0, 5)


def is_owners(thing):
    return is_tuple(thing, 1, 12) and all([is_owner(part) for part in thing])


def is_move(owners, thing):
    """Tell whether a thing is a tuple (stamp, giver, taker) that can be done."""
    if not is_tuple(thing, 3, 3):
        return False
    stamp, giver, taker = thing
    if not is_whole_within(stamp, 0, len(owners) - 1) or not is_owner(giver) or not is_owner(taker):
        return False
    return giver != taker and owners[stamp] == giver


def is_deal(owners, thing):
    """Tell whether a thing is a deal that can be done where these are the owners ahead of it."""
    if not is_tuple(thing, 1, 6) or not all([is_move(owners, part) for part in thing]):
        return False
    return is_each_once(moved_by(thing))


def is_deals(owners, thing):
    if not is_tuple(thing, 0, 10):
        return False
    now = owners
    for part in thing:
        if not is_deal(now, part):
            return False
        now = owners_done(now, (part,))
    return True


def moved_by(deal):
    """Tell the stamps that a deal moves."""
    return [move[0] for move in deal]


def owners_done(owners, deals):
    behind = list(owners)
    for deal in deals:
        for stamp, _, taker in deal:
            behind[stamp] = taker
    return tuple(behind)


def check_deals(owners, deals):
    if not is_owners(owners):
        raise NoOwners("no tuple of one to twelve owners from 0 to 5")
    if not is_deals(owners, deals):
        raise NoDeals("no tuple of at most ten deals that can be done")


def check_false(owners, deals, stamp):
    check_deals(owners, deals)
    if not is_whole_within(stamp, 0, len(owners) - 1):
        raise NoNumber("no number of a stamp")


def check_place(owners, deals, stamp, place):
    check_false(owners, deals, stamp)
    if not is_whole_within(place, 0, len(deals) - 1):
        raise NoNumber("no place of a deal")


def owners_behind(owners, deals, many):
    """Tell whose each stamp is behind so many deals."""
    check_deals(owners, deals)
    if not is_whole_within(many, 0, len(deals)):
        raise NoNumber("no number of deals that are there")
    return owners_done(owners, deals[:many])


def leaned_on(deals, place):
    """Tell the places of the deals by which the stamps that this deal moves came last."""
    told = []
    for stamp in moved_by(deals[place]):
        movers = [at for at in range(place) if stamp in moved_by(deals[at])]
        told.extend(movers[-1:])
    return told


def first_chain(deals, stamp, place, chains):
    """Tell the first of a deal's shortest chains, by those of the deals ahead; None where it stands."""
    if stamp in moved_by(deals[place]):
        return (place,)
    behind = [(len(chains[at]), chains[at]) for at in leaned_on(deals, place) if at in chains]
    if not behind:
        return None
    return min(behind)[1] + (place,)


def chains_by(deals, stamp):
    """Tell a dict of the deals that fall, rising, each with the first of its shortest chains."""
    chains = {}
    for place in range(len(deals)):
        chain = first_chain(deals, stamp, place, chains)
        if chain is not None:
            chains[place] = chain
    return chains


def fallen(owners, deals, stamp):
    """Tell the places of the deals that fall with a false stamp."""
    check_false(owners, deals, stamp)
    return tuple(chains_by(deals, stamp))


def owners_left(owners, deals, stamp):
    """Tell whose each stamp is behind the deals that stand."""
    check_false(owners, deals, stamp)
    chains = chains_by(deals, stamp)
    return owners_done(owners, [deal for place, deal in enumerate(deals) if place not in chains])


def chain_of(owners, deals, stamp, place):
    check_place(owners, deals, stamp, place)
    return chains_by(deals, stamp).get(place)


def is_chain(owners, deals, stamp, place, thing):
    check_place(owners, deals, stamp, place)
    # Each of a chain leans on the one ahead, so its places rise.
    if not is_rising_within(thing, 0, place) or thing[-1:] != (place,):
        return False
    if stamp not in moved_by(deals[thing[0]]):
        return False
    return all([ahead in leaned_on(deals, at) for ahead, at in zip(thing, thing[1:])])
