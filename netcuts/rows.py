"""Rows of cuts: where they lead, in halves of a mesh."""

# By a cut's number: a point (0), a bar (1), a mesh (2).
DEPTHS = (2, 1, 0)
WAYS_IN = (0, 1, 2)

HIGHEST_CUT = 2
MOST_CUTS = 40


def is_row(numbers):
    """Whether the numbers are a row that is not refused."""
    return len(numbers) <= MOST_CUTS and all([number <= HIGHEST_CUT for number in numbers])


def how_deep(row):
    return sum([DEPTHS[cut] for cut in row])


def how_far_in(row):
    return sum([WAYS_IN[cut] for cut in row])


def ways_in_by_depth(row):
    """How far in the row is at each depth, from 0 to its own."""
    ways_in = []
    way_in = 0
    for cut in row:
        # Above the depth that a cut leads to, the row is only as far in as before that cut.
        ways_in.extend([way_in] * DEPTHS[cut])
        way_in = way_in + WAYS_IN[cut]
    ways_in.append(way_in)
    return ways_in
