"""Bands found by walking over the squares with fractions: a second way, without shearing or turning.

From the corner in the north east of each square s a straight way goes out in the direction p, q; it is called s.
All these ways together cut the surface into strips. Each strip is as wide as every other one; two strips that
touch along ways from plain corners alone belong to one band.
"""

from fractions import Fraction

AHEAD = Fraction(1, 1000)
BESIDE = Fraction(1, 1000000)


def backward(step):
    return [step.index(square) for square in range(len(step))]


def ring(step, first):
    found = [first]
    while step[found[-1]] != first:
        found.append(step[found[-1]])
    return found


class Walker:
    def __init__(self, eastern, northern, p, q):
        self.east, self.north = eastern, northern
        self.west, self.south = backward(eastern), backward(northern)
        self.p, self.q = p, q
        self.squares = range(len(eastern))
        self.around = [self.south[self.west[self.north[self.east[s]]]] for s in self.squares]

    def offset(self, right):
        """A place a bit ahead on the way, a little to its right (1) or its left (-1), seen from its corner."""
        return (AHEAD * self.p + right * BESIDE * self.q, AHEAD * self.q - right * BESIDE * self.p)

    def square_there(self, s, offset):
        """The square that this offset from the corner of the way s lies in."""
        if self.p < 0 and self.q == 0 and offset[1] < 0:
            s = self.around[s]
        if offset[0] < 0 and offset[1] < 0:
            return s
        if offset[1] < 0:
            return self.east[s]
        if offset[0] > 0:
            return self.north[self.east[s]]
        return self.west[self.north[self.east[s]]]

    def way_there(self, square, offset):
        return [self.square_there(s, offset) for s in self.squares].index(square)

    def walk(self, square, place, by):
        """The square that is reached from a place in a square by going straight on."""
        x, y = place
        dx, dy = by
        crossed = []
        for k in range(1, abs(self.p) + abs(self.q) + 44):
            if dx != 0:
                crossed.append(((k - x) / dx if dx > 0 else (1 - k - x) / dx, self.east if dx > 0 else self.west))
            if dy != 0:
                crossed.append(((k - y) / dy if dy > 0 else (1 - k - y) / dy, self.north if dy > 0 else self.south))
        crossed = sorted([side for side in crossed if side[0] < 1], key=lambda side: side[0])
        for side in crossed:
            square = side[1][square]
        return square

    def reached(self, s, begun, ended, by):
        """The way by which one ends who begins beside the way s, and whose corner is away from the first by by."""
        square = self.square_there(s, begun)
        place = (begun[0] % 1, begun[1] % 1)
        moved = (by[0] + ended[0] - begun[0], by[1] + ended[1] - begun[1])
        return self.way_there(self.walk(square, place, moved), ended)

    def across(self):
        """To a corner on the other border of the strip that lies to the right."""
        span = range(-21, 22)
        found = [(a, b) for a in span for b in span if self.p * b - self.q * a == -1]
        return min(found, key=lambda by: abs(by[0]) + abs(by[1]))

    def bands(self):
        right, left = self.offset(1), self.offset(-1)
        onward = (self.p, self.q)
        on_right = [self.reached(s, right, right, onward) for s in self.squares]
        on_left = [self.reached(s, left, left, onward) for s in self.squares]
        beyond = [self.reached(s, right, left, self.across()) for s in self.squares]
        strip_of = [min(ring(on_right, s)) for s in self.squares]
        band_of = list(strip_of)
        for s in self.squares:
            border = ring(on_left, beyond[s])
            if all(self.around[way] == way for way in border):
                old, new = band_of[s], band_of[border[0]]
                band_of = [new if each == old else each for each in band_of]
        told = []
        for band in sorted(set(band_of)):
            strips = {strip_of[s] for s in self.squares if band_of[s] == band}
            told.append((len(ring(on_right, min(strips))), len(strips)))
        return sorted(told)


def walked_bands(eastern, northern, p, q):
    found = Walker(eastern, northern, p, q).bands()
    return [len(found)] + [number for band in found for number in band]
