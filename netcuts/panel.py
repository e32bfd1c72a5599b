"""A panel of net: its width at the top, and its two sides."""

from netcuts.refusals import OUT_OF_BOUNDS
from netcuts.rows import how_deep, how_far_in, is_row

WIDEST = 1000


class Panel:
    """Its methods answer the calls of the same names; a refusal leaves it as it was."""

    def __init__(self):
        self.width = 0
        self.left_side = []
        self.right_side = []

    def begins(self, width):
        if width > WIDEST:
            return [OUT_OF_BOUNDS]
        self.width = width
        self.left_side = []
        self.right_side = []
        return [0]

    def left(self, cuts):
        if not is_row(cuts):
            return [OUT_OF_BOUNDS]
        self.left_side = list(cuts)
        return [how_deep(cuts), how_far_in(cuts)]

    def right(self, cuts):
        if not is_row(cuts):
            return [OUT_OF_BOUNDS]
        self.right_side = list(cuts)
        return [how_deep(cuts), how_far_in(cuts)]
