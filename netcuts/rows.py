"""Rows of cuts: where they lead, in halves of a mesh."""

# By a cut's number: a point (0), a bar (1), a mesh (2).
DEPTHS = (2, 1, 0)
WAYS_IN = (0, 1, 2)

HIGHEST_CUT = 2
MOST_CUTS = 40


def is_row(numbers):
    """Whether the numbers are a row that is not refused."""
    return len(numbers) <= MOST_CUTS and all([number <= HIGHEST_CUT for number in numbers])


def how_deep(row):
    return sum([DEPTHS[cut] for cut in row])


def how_far_in(row):
    return sum([WAYS_IN[cut] for cut in row])
