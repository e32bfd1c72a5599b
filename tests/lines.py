"""What the tests share: lines of calls, their answers taken apart, and a plain search over rows."""

import itertools

from netcuts.tapers import answers

GREATEST = 4294967295
REFUSED = [-1]
NO_ROW = [-6]


def begins(width):
    return [0, width]


def left(cuts):
    return [1, len(cuts)] + cuts


def right(cuts):
    return [2, len(cuts)] + cuts


def best(depth, way_in):
    return [3, depth, way_in]


def line(*calls):
    return list(itertools.chain(*calls))


def taken_apart(told):
    """The answers of a line, one list a call."""
    parts = []
    at = 0
    while at < len(told):
        count = told[at]
        part = told[at + 1:at + 1 + count]
        if len(part) != count:
            raise ValueError("the answers end too early")
        parts.append(part)
        at += 1 + count
    return parts


def ask(*calls):
    return taken_apart(answers(line(*calls)))


def leads_to(row):
    """How deep and how far in a row leads, cut by cut."""
    depth = way_in = 0
    for cut in row:
        if cut == 0:
            depth += 2
        elif cut == 1:
            depth += 1
            way_in += 1
        else:
            way_in += 2
    return depth, way_in


def how_uneven(row, depth, way_in):
    """The document's words, taken one by one: every beginning, the empty one and the whole too."""
    greatest = 0
    for length in range(len(row) + 1):
        x, y = leads_to(row[:length])
        greatest = max(greatest, abs(x * way_in - y * depth))
    return greatest


def every_row_by_goal():
    """Every row of at most 10 cuts, in order, by where it leads.

    A cut leads on by 2 halves in all, so no longer row leads to d and i of at most 10.
    """
    rows = {}
    for length in range(11):
        for row in itertools.product((0, 1, 2), repeat=length):
            rows.setdefault(leads_to(row), []).append(row)
    return rows


def best_by_search(rows, depth, way_in):
    """What best answers, found among all rows that lead there."""
    if not rows:
        return NO_ROW
    rated = [(how_uneven(row, depth, way_in), row) for row in rows]
    least = min(rated)[0]
    evenest = [row for uneven, row in rated if uneven == least]
    return [least, len(evenest)] + list(min(evenest))
