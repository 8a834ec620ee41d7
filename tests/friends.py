"""Friends by chance, and what the document says of exchanges and papers, reckoned by other roads."""

import itertools

from hingemount.albums import Album

WIDE = tuple(("x", year, 6) for year in range(1900, 1904))


def places_of(book):
    return [(at, number) for at, part in enumerate(book) for number in range(part[2])]


def friends_by_chance(chance, book, many, share, most):
    """Each friend has some of a place with this share, and then up to so many of each grade."""
    told = []
    for _ in range(many):
        stamps = []
        for at, number in places_of(book):
            if chance.random() < share:
                stamps += [(at, number, 0)] * chance.randint(0, most) + [(at, number, 1)] * chance.randint(0, most)
        told.append(Album(book, "", tuple(stamps)))
    return tuple(told)


def doubles_in(friend):
    """A dict of the doubles: of each place one is kept, a whole one where there is one."""
    left = dict(friend.all_of())
    for at, number in places_of(friend.book()):
        for stamp in ((at, number, 1), (at, number, 0)):
            if left.get(stamp):
                left[stamp] -= 1
                break
    return {stamp: many for stamp, many in left.items() if many}


def lacks(friend, place):
    return not any(friend.count_of((*place, grade)) for grade in (0, 1))


def gives_of(friends):
    return [
        (giver, taker, stamp)
        for giver, one in enumerate(friends) for taker, other in enumerate(friends)
        for stamp in sorted(doubles_in(one)) if lacks(other, stamp[:2])
    ]


def most_by_trying(friends):
    """The most gives that an exchange has, by trying each lot of gives: for few gives alone."""
    gives = gives_of(friends)
    best = 0
    for taken in itertools.product((False, True), repeat=len(gives)):
        lot = list(itertools.compress(gives, taken))
        if len(lot) > best and is_even_lot(friends, lot):
            best = len(lot)
    return best


def is_even_lot(friends, lot):
    numbers = range(len(friends))
    if any(sum(give[0] == at for give in lot) != sum(give[1] == at for give in lot) for at in numbers):
        return False
    got = [(taker, stamp[:2]) for _, taker, stamp in lot]
    given = [(giver, stamp) for giver, _, stamp in lot]
    if any(given.count((at, stamp)) > doubles_in(friends[at])[stamp] for at, stamp in set(given)):
        return False
    return len(set(got)) == len(got)


def most_by_levels(friends):
    """The most gives that an exchange has, by trying all levels: each place by itself shows how many at most.

    One place takes at most three friends, and a way over one changes levels by one at most, so levels
    from -3 to 3 are enough.
    """
    numbers = range(len(friends))
    shares = []
    for at, number in places_of(friends[0].book()):
        spare = [sum(doubles_in(friend).get((at, number, grade), 0) for grade in (0, 1)) for friend in friends]
        shares.append((spare, [taker for taker in numbers if lacks(friends[taker], (at, number))]))
    found = []
    for rest in itertools.product(range(-3, 4), repeat=len(friends) - 1):
        found.append(sum(place_by_levels(spare, takers, (0, *rest)) for spare, takers in shares))
    return min(found)


def place_by_levels(spare, takers, levels):
    givers = [None, *[at for at, many in enumerate(spare) if many]]
    best = 0
    for chosen in itertools.product(givers, repeat=len(takers)):
        if all(chosen.count(giver) <= spare[giver] for giver in givers[1:]):
            gained = [1 - levels[giver] + levels[taker] for giver, taker in zip(chosen, takers) if giver is not None]
            best = max(best, sum(gained))
    return best


def is_paper_by(friends, paper):
    """Whether (levels, dears, wishes) of the right shapes and kinds are a paper."""
    levels, dears, wishes = paper
    dear = {(friend, stamp): price for friend, stamp, price in dears}
    wish = {(friend, place): price for friend, place, price in wishes}
    if len(dear) != len(dears) or len(wish) != len(wishes) or len(levels) != len(friends):
        return False
    if list(dears) != sorted(dears) or list(wishes) != sorted(wishes) or min([1, *dear.values(), *wish.values()]) < 1:
        return False
    numbers = range(len(friends))
    if any(friend not in numbers or stamp not in doubles_in(friends[friend]) for friend, stamp in dear):
        return False
    places = places_of(friends[0].book())
    if any(friend not in numbers or place not in places for friend, place in wish):
        return False
    if not all(lacks(friends[friend], place) for friend, place in wish):
        return False
    for giver, taker, stamp in gives_of(friends):
        if dear.get((giver, stamp), 0) + wish.get((taker, stamp[:2]), 0) + levels[giver] - levels[taker] < 1:
            return False
    return True
