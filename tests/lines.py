"""What the tests share: lines of calls, their answers taken apart, and all answers reckoned again plainly."""

import functools
import itertools

from netcuts.tapers import answers

GREATEST = 4294967295
REFUSED = [-1]
NO_ROW = [-6]


def begins(width):
    return [0, width]


def left(cuts):
    return [1, len(cuts)] + cuts


def right(cuts):
    return [2, len(cuts)] + cuts


def best(depth, way_in):
    return [3, depth, way_in]


def check(depth, way_in, cuts):
    return [4, depth, way_in, len(cuts)] + cuts


def unit(cuts):
    return [5, len(cuts)] + cuts


def widths():
    return [6]


def line(*calls):
    return list(itertools.chain(*calls))


def taken_apart(told):
    """The answers of a line, one list a call."""
    parts = []
    at = 0
    while at < len(told):
        count = told[at]
        part = told[at + 1:at + 1 + count]
        if len(part) != count:
            raise ValueError("the answers end too early")
        parts.append(part)
        at += 1 + count
    return parts


def ask(*calls):
    return taken_apart(answers(line(*calls)))


def every_row(most):
    """Every row of at most so many cuts, in order of length."""
    return [list(row) for length in range(most + 1) for row in itertools.product((0, 1, 2), repeat=length)]


def wrong_rows():
    """Rows that are refused: a number that is no cut at the first, a middle, the last place; too many cuts."""
    rows = [[0] * length for length in (41, 42, 49, 50)] + [[3], [GREATEST]]
    for length, number in itertools.product((5, 40, 41, 50), (3, 4, GREATEST)):
        for place in (0, length // 2, length - 1):
            cuts = [1] * length
            cuts[place] = number
            rows.append(cuts)
    return rows


def leads_to(row):
    """How deep and how far in a row leads, cut by cut."""
    depth = way_in = 0
    for cut in row:
        if cut == 0:
            depth += 2
        elif cut == 1:
            depth += 1
            way_in += 1
        else:
            way_in += 2
    return depth, way_in


def how_uneven(row, depth, way_in):
    """The document's words, taken one by one: every beginning, the empty one and the whole too."""
    greatest = 0
    for length in range(len(row) + 1):
        x, y = leads_to(row[:length])
        greatest = max(greatest, abs(x * way_in - y * depth))
    return greatest


@functools.cache
def every_row_by_goal():
    """Every row of at most 10 cuts, in order, by where it leads.

    A cut leads on by 2 halves in all, so no longer row leads to d and i of at most 10.
    """
    rows = {}
    for row in every_row(10):
        rows.setdefault(leads_to(row), []).append(row)
    return rows


@functools.cache
def best_by_search(depth, way_in):
    """What best answers for d and i of at most 10, found among all rows that lead there."""
    rows = every_row_by_goal().get((depth, way_in), [])
    if not rows:
        return NO_ROW
    rated = [(how_uneven(row, depth, way_in), row) for row in rows]
    least = min(rated)[0]
    evenest = [row for uneven, row in rated if uneven == least]
    return [least, len(evenest)] + min(evenest)


def unit_by_search(row):
    """What unit answers: the shortest beginning that gives the row when it is put behind itself."""
    for length in range(1, len(row) + 1):
        for times in range(1, len(row) + 1):
            if row[:length] * times == row:
                return [times] + row[:length]
    return [0]


def side_in(row, depth):
    """How far in a side is at a depth: as its longest beginning that is no deeper."""
    beginnings = [row[:length] for length in range(len(row) + 1)]
    longest = [beginning for beginning in beginnings if leads_to(beginning)[0] <= depth][-1]
    return leads_to(longest)[1]


def widths_by_words(width, left_side, right_side):
    """What widths answers, depth by depth."""
    found = []
    for depth in range(min(leads_to(left_side)[0], leads_to(right_side)[0]) + 1):
        both_in = side_in(left_side, depth) + side_in(right_side, depth)
        if both_in > width:
            return [-6, depth]
        found.append(width - both_in)
    return [sum(found) - found[0]] + found


def is_wrong(row):
    return len(row) > 40 or any(number not in (0, 1, 2) for number in row)


class PlainPanel:
    """What each call of a line answers, by the document's words."""

    def __init__(self):
        self.width = 0
        self.sides = {1: [], 2: []}

    def answer(self, call):
        kind = call[0]
        if kind == 0:
            return self.answer_begins(call[1])
        if kind == 3:
            return REFUSED if max(call[1:]) > 10 else best_by_search(call[1], call[2])
        if kind == 6:
            return widths_by_words(self.width, self.sides[1], self.sides[2])
        row = call[4:] if kind == 4 else call[2:]
        if is_wrong(row):
            return REFUSED
        if kind == 4:
            return self.answer_check(call[1], call[2], row)
        if kind == 5:
            return unit_by_search(row)
        self.sides[kind] = row
        return list(leads_to(row))

    def answer_begins(self, width):
        if width > 1000:
            return REFUSED
        self.width = width
        self.sides = {1: [], 2: []}
        return [0]

    def answer_check(self, depth, way_in, row):
        if max(depth, way_in) > 1000:
            return REFUSED
        if leads_to(row) != (depth, way_in):
            return NO_ROW + list(leads_to(row))
        return [how_uneven(row, depth, way_in)]


def reckoned(calls):
    panel = PlainPanel()
    return [panel.answer(call) for call in calls]
