"""Squares glued by their sides, and what is found by going from square to square."""


class Surface:
    def __init__(self, eastern, northern):
        self.eastern = eastern
        self.northern = northern


def one_row(many):
    eastern = [(square + 1) % many for square in range(many)]
    return Surface(eastern, list(range(many)))


def tells_all_once(squares, many):
    return sorted(squares) == list(range(many))


def backward(step):
    back = [0] * len(step)
    for square in range(len(step)):
        back[step[square]] = square
    return back


def ring_from(step, square):
    ring = [square]
    there = step[square]
    while there != square:
        ring.append(there)
        there = step[there]
    return ring


# The squares are tried from 0 on, so the rings stand in the order of their least squares.
def rings(step):
    found = []
    seen = [False] * len(step)
    for square in range(len(step)):
        if not seen[square]:
            ring = ring_from(step, square)
            for member in ring:
                seen[member] = True
            found.append(ring)
    return found


def ring_lengths(step):
    return [len(ring) for ring in rings(step)]


def once_round(surface):
    western = backward(surface.eastern)
    southern = backward(surface.northern)
    northeastern = [surface.northern[square] for square in surface.eastern]
    return [southern[western[square]] for square in northeastern]


def corner_turns(surface):
    return ring_lengths(once_round(surface))


def how_many_holes(surface):
    less = len(surface.eastern) - len(corner_turns(surface))
    return less // 2 + 1


def order_from(surface, first):
    order = [first]
    place = 0
    while place < len(order):
        square = order[place]
        for there in (surface.eastern[square], surface.northern[square]):
            if there not in order:
                order.append(there)
        place += 1
    return order


# Every step comes back to where it began, so steps to the east and north alone reach all that hangs together.
def hangs_together(surface):
    return len(order_from(surface, 0)) == len(surface.eastern)


def told_in_order(surface, order):
    renamed = backward(order)
    eastern = [renamed[surface.eastern[square]] for square in order]
    northern = [renamed[surface.northern[square]] for square in order]
    return eastern + northern


def name_of(surface):
    told = []
    for first in range(len(surface.eastern)):
        told.append(told_in_order(surface, order_from(surface, first)))
    return min(told)
