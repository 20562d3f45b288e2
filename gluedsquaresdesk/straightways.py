"""The calls on one object, answered one behind another."""

from gluedsquaresdesk.bands import bands_in, is_direction
from gluedsquaresdesk.reading import BANDS, BEGIN, COLUMNS, CORNERS, GLUE, HOLES, NAME, ROWS, STATE, cut_into_calls
from gluedsquaresdesk.surface import Surface, corner_turns, hangs_together, how_many_holes, name_of, one_row
from gluedsquaresdesk.surface import ring_lengths, tells_all_once

NOT_BEGUN = -11
NOT_RIGHT = -22
NOT_TOGETHER = -33
MOST_SQUARES = 6


class Desk:
    def __init__(self):
        self.surface = None


def counted(numbers):
    return [len(numbers)] + numbers


def begin(desk, many):
    if many < 1 or many > MOST_SQUARES:
        return [NOT_RIGHT]
    desk.surface = one_row(many)
    return [0]


def glue(desk, eastern, northern):
    many = len(desk.surface.eastern)
    if not tells_all_once(eastern, many) or not tells_all_once(northern, many):
        return [NOT_RIGHT]
    glued = Surface(eastern, northern)
    if not hangs_together(glued):
        return [NOT_TOGETHER]
    desk.surface = glued
    return [len(corner_turns(glued))]


def tell_bands(surface, p, q):
    if not is_direction(p, q):
        return [NOT_RIGHT]
    found = bands_in(surface, p, q)
    told = [len(found)]
    for band in found:
        told.extend([band[0], band[1]])
    return told


def tell(surface, call):
    if call == CORNERS:
        return counted(corner_turns(surface))
    if call == HOLES:
        return [how_many_holes(surface)]
    if call == ROWS:
        return counted(ring_lengths(surface.eastern))
    if call == COLUMNS:
        return counted(ring_lengths(surface.northern))
    if call == NAME:
        return counted(name_of(surface))
    if call == STATE:
        return [len(surface.eastern)] + surface.eastern + surface.northern
    raise NotImplementedError(f"call {call}")


def answer(desk, call, numbers, lists):
    if call == BEGIN:
        return begin(desk, numbers[0])
    if desk.surface is None:
        return [NOT_BEGUN]
    if call == GLUE:
        return glue(desk, lists[0], lists[1])
    if call == BANDS:
        return tell_bands(desk.surface, numbers[0], numbers[1])
    return tell(desk.surface, call)


def answers(calls):
    desk = Desk()
    told = []
    for cut in cut_into_calls(calls):
        told.extend(counted(answer(desk, cut[0], cut[1], cut[2])))
    return told
