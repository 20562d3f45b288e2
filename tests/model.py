"""A second way to answer all calls, by going from square to square: the tests hold the program against it."""

from math import gcd

from tests import words
from tests.walking import walked_bands

CHANGES = {"shear": words.sheared, "unshear": words.sheared_back, "turn": words.turned}


def rounds(squares, way_on):
    """Rings of squares, by the least square of each."""
    found = []
    for square in squares:
        if not any(square in ring for ring in found):
            ring = [square]
            while way_on(ring[-1]) != square:
                ring.append(way_on(ring[-1]))
            found.append(ring)
    return found


def in_order(greatest):
    """1, 0 first, then those with q from 1 on, of like ones with the lesser p."""
    found = [(1, 0)]
    for q in range(1, greatest + 1):
        found += [(p, q) for p in range(-greatest, greatest + 1) if gcd(p, q) == 1]
    return found


class Model:
    def __init__(self):
        self.sides = None

    def rings(self, way):
        return rounds(range(len(self.sides[0])), lambda square: words.gone(*self.sides, square, way))

    def lengths(self, way):
        found = [len(ring) for ring in self.rings(way)]
        return [len(found)] + found

    def order(self, first):
        found = [first]
        for square in found:
            for side in self.sides:
                if side[square] not in found:
                    found.append(side[square])
        return found

    def name(self):
        orders = [self.order(first) for first in range(len(self.sides[0]))]
        told = [[order.index(side[square]) for side in self.sides for square in order] for order in orders]
        return [len(told[0])] + min(told)

    def bands(self, p, q):
        return walked_bands(*self.sides, p, q)

    def one(self):
        for p, q in in_order(5):
            if self.bands(p, q)[0] == 1:
                return [0, p, q]
        return [-33]

    def counts(self, greatest):
        if not 1 <= greatest <= 4:
            return [-22]
        many = [self.bands(p, q)[0] for p, q in in_order(greatest)]
        return [len(many)] + [many.count(bands) for bands in range(1, 7)]

    def tops(self):
        rows = self.rings([0])
        return [len(rows)] + [int(all(words.plain(*self.sides, square) for square in row)) for row in rows]

    def begin(self, many):
        if not 1 <= many <= 6:
            return [-22]
        self.sides = ([*range(1, many), 0], [*range(many)])
        return [0]

    def glue(self, eastern, northern):
        squares = list(range(len(self.sides[0])))
        if sorted(eastern) != squares or sorted(northern) != squares:
            return [-22]
        kept, self.sides = self.sides, (eastern, northern)
        if len(self.order(0)) < len(squares):
            self.sides = kept
            return [-33]
        return [self.lengths([0, 1, 2, 3])[0]]

    def change(self, ways):
        self.sides = words.changed(*self.sides, ways)
        return [0]

    def directed(self, name, p, q):
        if max(abs(p), abs(q)) > 20 or gcd(p, q) != 1:
            return [-22]
        if name == "lay":
            return self.change(words.laid(p, q))
        told = self.bands(p, q)
        return told if name == "bands" else [max(told[1::2])]

    def told(self, name):
        if name == "corners":
            return self.lengths([0, 1, 2, 3])
        if name == "holes":
            return [(len(self.sides[0]) - self.lengths([0, 1, 2, 3])[0]) // 2 + 1]
        if name == "rows":
            return self.lengths([0])
        if name == "columns":
            return self.lengths([1])
        if name == "state":
            return [len(self.sides[0])] + self.sides[0] + self.sides[1]
        return {"name": self.name, "one": self.one, "tops": self.tops}[name]()

    def answer(self, name, *given):
        if name == "begin":
            return self.begin(*given)
        if self.sides is None:
            return [-11]
        if name in CHANGES:
            return self.change(CHANGES[name](words.UNCHANGED))
        if name == "glue":
            return self.glue(*given)
        if name == "counts":
            return self.counts(*given)
        return self.directed(name, *given) if given else self.told(name)


def modelled(*calls):
    model = Model()
    return [model.answer(*call) for call in calls]
