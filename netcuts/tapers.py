"""The interface: a line of calls about one panel, and their answers."""

from netcuts.evenness import best, check
from netcuts.panel import Panel
from netcuts.units import unit

BEGINS = 0
LEFT = 1
RIGHT = 2
BEST = 3
CHECK = 4
UNIT = 5
WIDTHS = 6


class UnknownCall(ValueError):
    """A line has a call with a number that is none of those above."""


class Line:
    """Reads a line of calls, number by number, and leaves it as it is."""

    def __init__(self, calls):
        self.calls = calls
        self.at = 0

    def is_ended(self):
        return self.at >= len(self.calls)

    def take_number(self):
        number = self.calls[self.at]
        self.at = self.at + 1
        return number

    def take_row(self):
        length = self.take_number()
        row = self.calls[self.at:self.at + length]
        self.at = self.at + length
        return row


def answer(panel, line):
    """What the line's first call that is not yet read answers."""
    call = line.take_number()
    if call == BEGINS:
        return panel.begins(line.take_number())
    if call == LEFT:
        return panel.left(line.take_row())
    if call == RIGHT:
        return panel.right(line.take_row())
    if call == BEST:
        depth = line.take_number()
        way_in = line.take_number()
        return best(depth, way_in)
    if call == CHECK:
        depth = line.take_number()
        way_in = line.take_number()
        return check(depth, way_in, line.take_row())
    if call == UNIT:
        return unit(line.take_row())
    if call == WIDTHS:
        return panel.widths()
    raise UnknownCall(f"no call has the number {call}")


def answers(calls):
    """For each call, in order: how many numbers it answers, then these."""
    panel = Panel()
    line = Line(calls)
    told = []
    while not line.is_ended():
        numbers = answer(panel, line)
        told.append(len(numbers))
        told.extend(numbers)
    return told
