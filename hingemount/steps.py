"""The exchange with most gives, found by rings of steps.

A give goes over four points: its giver, the giver's double (friend, stamp), the
taker's gap (friend, place), its taker. Friends give as many as they get just
where the steps make rings; a ring is worth going where it takes up more gives
than it drops.
"""

from hingemount.exchanges import all_gives, doubles_by, gaps_by


def steps_left(friends, gives, taken):
    """Tell the steps that can be gone where these gives are taken, as tuples (start, end, gain).

    A step back over a give that is taken drops it.
    """
    given = [(giver, stamp) for giver, _, stamp in taken]
    filled = [(taker, stamp[:2]) for _, taker, stamp in taken]
    steps = []
    for double, many in doubles_by(friends).items():
        if given.count(double) < many:
            steps.append((double[0], double, 0))
        if double in given:
            steps.append((double, double[0], 0))
    # No ring goes over a give twice: from a gap that is filled there is but the step back over its give.
    steps.extend([((giver, stamp), (taker, stamp[:2]), 1) for giver, taker, stamp in gives])
    steps.extend([((taker, stamp[:2]), (giver, stamp), -1) for giver, taker, stamp in taken])
    for gap in gaps_by(friends):
        steps.append((gap[0], gap, 0) if gap in filled else (gap, gap[0], 0))
    return steps


def raise_heights(steps, heights, came):
    """Raise each end of a step to what it gains above its start; tell whether any rose.

    A point that isn't in heights is at 0; came keeps the step by which each was raised last.
    """
    rose = False
    for step in steps:
        start, end, gain = step
        height = heights.get(start, 0) + gain
        if height > heights.get(end, 0):
            heights[end] = height
            came[end] = step
            rose = True
    return rose


def ring_through(came, point):
    """Tell the ring by whose steps, gone back, a point comes to itself."""
    ring = [came[point]]
    while ring[-1][0] != point:
        ring.append(came[ring[-1][0]])
    return ring


def ring_in(came):
    """Tell a ring of the steps by which points were raised last, [] where there is none."""
    passed = {}
    for first in came:
        point = first
        while point in came and point not in passed:
            passed[point] = first
            point = came[point][0]
        # A way that meets an earlier one has no ring of its own.
        if passed.get(point) == first:
            return ring_through(came, point)
    return []


def heights_or_ring(steps):
    """Tell heights such that no step gains more than it rises, and []; or a ring that gains."""
    heights = {}
    came = {}
    ring = []
    while not ring and raise_heights(steps, heights, came):
        # Points of a ring that gains would rise without end, each raised by the one ahead of it.
        ring = ring_in(came)
    return heights, ring


def turned_by(ring):
    """Tell the gives that the steps of a ring take up or drop."""
    taken_up = [(start[0], end[0], start[1]) for start, end, gain in ring if gain == 1]
    dropped = [(end[0], start[0], end[1]) for start, end, gain in ring if gain == -1]
    return taken_up + dropped


def most_taken(friends):
    """Tell an exchange with most gives, and the heights that show that none has more."""
    gives = all_gives(friends)
    taken = []
    heights, ring = heights_or_ring(steps_left(friends, gives, taken))
    while ring:
        turned = turned_by(ring)
        taken = [give for give in gives if (give in taken) != (give in turned)]
        heights, ring = heights_or_ring(steps_left(friends, gives, taken))
    return tuple(taken), heights
