"""Surfaces changed in a second way: by the steps on the old surface that make up one step on the new one.

A way is a list of steps: 0 to the eastern one, 1 to the northern one, 2 to the western one, 3 to the southern one.
A surface is changed by telling the way that its new step to the east is, and the one that its new step to the north is.
"""

from fractions import Fraction
from math import floor

UNCHANGED = ([0], [1])


def joined(way, other):
    """One way behind another. A step and its way back are left out: else the ways grow without measure."""
    found = list(way)
    for step in other:
        if found and found[-1] == (step + 2) % 4:
            found.pop()
        else:
            found.append(step)
    return found


def back(way):
    return [(step + 2) % 4 for step in reversed(way)]


def sheared(ways):
    east, north = ways
    return east, joined(back(east), north)


def sheared_back(ways):
    east, north = ways
    return east, joined(east, north)


def turned(ways):
    east, north = ways
    return back(north), east


def laid(p, q):
    ways = UNCHANGED
    while q != 0:
        often = floor(Fraction(p, q))
        for again in range(abs(often)):
            ways = sheared_back(ways) if often > 0 else sheared(ways)
        p -= often * q
        ways = turned(ways)
        p, q = -q, p
    return turned(turned(ways)) if p < 0 else ways


def gone(eastern, northern, square, way):
    for step in way:
        side = (eastern, northern)[step % 2]
        square = side[square] if step < 2 else side.index(square)
    return square


def changed(eastern, northern, ways):
    squares = range(len(eastern))
    return tuple([gone(eastern, northern, square, way) for square in squares] for way in ways)


def plain(eastern, northern, square):
    return gone(eastern, northern, square, [0, 1, 2, 3]) == square


def far(way):
    """How far a way goes to the east and to the north in all."""
    return way.count(0) - way.count(2), way.count(1) - way.count(3)
