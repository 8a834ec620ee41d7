"""Papers: prices that show that no exchange fills more gaps than the told one."""

from hingemount.errors import NoPaper
from hingemount.exchanges import all_gives, check_friends, doubles_by, gaps_by
from hingemount.kinds import is_rising, is_tuple, is_whole, is_whole_from
from hingemount.lists import is_place, is_stamp
from hingemount.steps import most_taken


def is_levels(friends, thing):
    many = len(friends)
    return is_tuple(thing, many, many) and all([is_whole(part) for part in thing])


def looks_priced(book, is_one, thing):
    """Tell whether a thing is a tuple (friend, stamp or place, price), for a truth would equal a number."""
    if not is_tuple(thing, 3, 3):
        return False
    friend, priced, price = thing
    return is_whole(friend) and is_one(book, priced) and is_whole_from(price, 1)


def is_priced(book, is_one, known, thing):
    """Tell whether a thing is a rising tuple of prices of what is known, (friend, stamp or place), each once."""
    if not isinstance(thing, tuple) or not all([looks_priced(book, is_one, part) for part in thing]):
        return False
    return is_rising([part[:2] for part in thing]) and all([part[:2] in known for part in thing])


def covers_gives(friends, paper):
    """Tell whether for each give its prices and its friends' levels come to 1 at least."""
    levels, dears, wishes = paper
    prices = {(friend, priced): price for friend, priced, price in dears + wishes}
    return all([
        prices.get((giver, stamp), 0) + prices.get((taker, stamp[:2]), 0) + levels[giver] - levels[taker] >= 1
        for giver, taker, stamp in all_gives(friends)
    ])


def is_paper(friends, thing):
    check_friends(friends)
    if not is_tuple(thing, 3, 3):
        return False
    book = friends[0].book()
    levels, dears, wishes = thing
    if not is_levels(friends, levels) or not is_priced(book, is_stamp, doubles_by(friends), dears):
        return False
    return is_priced(book, is_place, gaps_by(friends), wishes) and covers_gives(friends, thing)


def shown_by(friends, paper):
    """Tell how many gives at most an exchange can have, as a paper shows."""
    if not is_paper(friends, paper):
        raise NoPaper("no paper of the friends")
    _, dears, wishes = paper
    doubles = doubles_by(friends)
    return sum([price * doubles[friend, stamp] for friend, stamp, price in dears]) + sum([wish[2] for wish in wishes])


def risen(heights, start, end):
    """Tell how far a point is above another one, 0 where it is below."""
    return max(0, heights.get(end, 0) - heights.get(start, 0))


def paper_by(friends, heights):
    """Tell the paper of heights above which no step that is left leads.

    So a double below its friend is given as often as it is there, a gap above
    its friend is filled, and the told number is that of the gives.
    """
    levels = tuple([-heights.get(at, 0) for at in range(len(friends))])
    dears = [(*double, risen(heights, double, double[0])) for double in doubles_by(friends)]
    wishes = [(*gap, risen(heights, gap[0], gap)) for gap in gaps_by(friends)]
    return levels, tuple([dear for dear in dears if dear[2]]), tuple([wish for wish in wishes if wish[2]])


def most_gaps(friends):
    """Tell ("most", many, exchange, paper): an exchange with most gives, and a paper that shows just as many."""
    check_friends(friends)
    exchange, heights = most_taken(friends)
    return "most", len(exchange), exchange, paper_by(friends, heights)
