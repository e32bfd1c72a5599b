"""How uneven a row is, and the least uneven rows that lead to a goal.

A place is a tuple: how deep, how far in. A row walks from (0, 0) to its goal,
and each of its beginnings ends at a place. As how uneven a row is depends on
these places alone, best goes through places, not rows, of which there are far
more.
"""

from netcuts.refusals import LEADS_ELSEWHERE, OUT_OF_BOUNDS
from netcuts.rows import DEPTHS, WAYS_IN, how_deep, how_far_in, is_row

START = (0, 0)
FARTHEST_BEST = 10
FARTHEST_CHECKED = 1000


def best(depth, way_in):
    """Answers the call best: how uneven, how many rows, the earliest of them."""
    if depth > FARTHEST_BEST or way_in > FARTHEST_BEST:
        return [OUT_OF_BOUNDS]
    goal = (depth, way_in)
    uneven = least_uneven(goal)
    if uneven is None:
        return [LEADS_ELSEWHERE]
    counts = count_onward(goal, uneven)
    return [uneven, counts[START]] + earliest_row(goal, counts)


def check(depth, way_in, cuts):
    """Answers the call check: how uneven the row is, or where else it leads."""
    if not is_row(cuts) or depth > FARTHEST_CHECKED or way_in > FARTHEST_CHECKED:
        return [OUT_OF_BOUNDS]
    goal = (depth, way_in)
    end = (how_deep(cuts), how_far_in(cuts))
    if end != goal:
        return [LEADS_ELSEWHERE, end[0], end[1]]
    return [how_uneven(cuts, goal)]


def off_line(place, goal):
    """How far a beginning that ends at the place is from even, on the way to the goal."""
    return abs(place[0] * goal[1] - place[1] * goal[0])


def places_back(goal):
    """All places no farther than the goal, each behind those that a cut leads to from it."""
    places = []
    for depth in range(goal[0], -1, -1):
        for way_in in range(goal[1], -1, -1):
            places.append((depth, way_in))
    return places


def places_onward(place):
    """Where each cut leads from the place, in the order of the cuts' numbers."""
    return [(place[0] + depth, place[1] + way_in) for depth, way_in in zip(DEPTHS, WAYS_IN)]


def how_uneven(row, goal):
    """The farthest from even that any beginning of the row is."""
    place = START
    uneven = off_line(place, goal)
    for cut in row:
        place = places_onward(place)[cut]
        uneven = max(uneven, off_line(place, goal))
    return uneven


def least_uneven(goal):
    """How uneven the least uneven rows to the goal are, or None if no row leads there."""
    least = {}
    for place in places_back(goal):
        onward = [least[after] for after in places_onward(place) if after in least]
        if place == goal:
            least[place] = off_line(place, goal)
        elif len(onward) > 0:
            least[place] = max(off_line(place, goal), min(onward))
    return least.get(START)


def count_onward(goal, uneven):
    """For each place, how many rows lead from it to the goal and are nowhere more uneven."""
    counts = {}
    for place in places_back(goal):
        if off_line(place, goal) > uneven:
            counts[place] = 0
        elif place == goal:
            counts[place] = 1
        else:
            counts[place] = sum([counts.get(after, 0) for after in places_onward(place)])
    return counts


def earliest_row(goal, counts):
    """The earliest of the counted rows: at each place the lowest cut that still leads on."""
    row = []
    place = START
    while place != goal:
        onward = places_onward(place)
        cut = min([number for number, after in enumerate(onward) if counts.get(after, 0) > 0])
        row.append(cut)
        place = onward[cut]
    return row
