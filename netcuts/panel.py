"""A panel of net: its width at the top, and its two sides."""

from netcuts.refusals import OUT_OF_BOUNDS, SIDES_CROSS
from netcuts.rows import how_deep, how_far_in, is_row, ways_in_by_depth

WIDEST = 1000


class Panel:
    """Its methods answer the calls of the same names; a refusal leaves it as it was."""

    def __init__(self):
        self.width = 0
        self.left_side = []
        self.right_side = []

    def begins(self, width):
        if width > WIDEST:
            return [OUT_OF_BOUNDS]
        self.width = width
        self.left_side = []
        self.right_side = []
        return [0]

    def left(self, cuts):
        if not is_row(cuts):
            return [OUT_OF_BOUNDS]
        self.left_side = list(cuts)
        return [how_deep(cuts), how_far_in(cuts)]

    def right(self, cuts):
        if not is_row(cuts):
            return [OUT_OF_BOUNDS]
        self.right_side = list(cuts)
        return [how_deep(cuts), how_far_in(cuts)]

    def widths(self):
        by_depth = self.widths_by_depth()
        for depth, width in enumerate(by_depth):
            if width < 0:
                return [SIDES_CROSS, depth]
        return [sum(by_depth[1:])] + by_depth

    def widths_by_depth(self):
        """The width at each depth, from 0 to the panel's own; below 0 where the sides cross."""
        left_in = ways_in_by_depth(self.left_side)
        right_in = ways_in_by_depth(self.right_side)
        # The panel ends with the side that is less deep, and so does zip.
        return [self.width - left - right for left, right in zip(left_in, right_in)]
