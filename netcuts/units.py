"""The unit of a row: the shortest row that gives it when put behind itself."""

from netcuts.refusals import OUT_OF_BOUNDS
from netcuts.rows import is_row


def unit(cuts):
    """Answers the call unit: how often the unit stands in the row, then its cuts."""
    if not is_row(cuts):
        return [OUT_OF_BOUNDS]
    if len(cuts) == 0:
        return [0]
    length = unit_length(cuts)
    return [len(cuts) // length] + cuts[:length]


def unit_length(row):
    """How many cuts the unit of a row has that is not empty."""
    length = 1
    # This ends, as a row that is put there once gives itself.
    while row[:length] * (len(row) // length) != row:
        length = length + 1
    return length
