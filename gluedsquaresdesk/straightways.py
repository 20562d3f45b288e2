"""The calls on one object, answered one behind another."""

from gluedsquaresdesk.bands import bands_in, directions_by_bands, first_with_one_band, laid, longest_in
from gluedsquaresdesk.bands import sheared, sheared_back, tops, turned
from gluedsquaresdesk.directions import is_direction
from gluedsquaresdesk.reading import BANDS, BEGIN, COLUMNS, CORNERS, COUNTS, GLUE, HOLES, LAY, LONGEST, NAME, ONE
from gluedsquaresdesk.reading import ROWS, SHEAR, TOPS, TURN, UNSHEAR, cut_into_calls
from gluedsquaresdesk.surface import Surface, corner_turns, hangs_together, how_many_holes, name_of, one_row
from gluedsquaresdesk.surface import ring_lengths, tells_all_once

NOT_BEGUN = -11
NOT_RIGHT = -22
NOT_TOGETHER = -33
NONE_THERE = -33
MOST_SQUARES = 6
MOST_COUNTED = 4


class Desk:
    def __init__(self):
        self.surface = None


def counted(numbers):
    return [len(numbers)] + numbers


def begin(desk, many):
    if many < 1 or many > MOST_SQUARES:
        return [NOT_RIGHT]
    desk.surface = one_row(many)
    return [0]


def glue(desk, eastern, northern):
    many = len(desk.surface.eastern)
    if not tells_all_once(eastern, many) or not tells_all_once(northern, many):
        return [NOT_RIGHT]
    glued = Surface(eastern, northern)
    if not hangs_together(glued):
        return [NOT_TOGETHER]
    desk.surface = glued
    return [len(corner_turns(glued))]


def change(desk, changed):
    desk.surface = changed
    return [0]


def tell_bands(surface, p, q):
    found = bands_in(surface, p, q)
    told = [len(found)]
    for band in found:
        told.extend([band[0], band[1]])
    return told


def answer_direction(desk, call, p, q):
    if not is_direction(p, q):
        return [NOT_RIGHT]
    if call == LAY:
        return change(desk, laid(desk.surface, p, q))
    if call == LONGEST:
        return [longest_in(desk.surface, p, q)]
    return tell_bands(desk.surface, p, q)


def tell_one(surface):
    direction = first_with_one_band(surface)
    if direction is None:
        return [NONE_THERE]
    return [0, direction[0], direction[1]]


def tell_counts(surface, greatest):
    if greatest < 1 or greatest > MOST_COUNTED:
        return [NOT_RIGHT]
    many = directions_by_bands(surface, greatest)
    return [sum(many)] + many


def tell(surface, call):
    if call == CORNERS:
        return counted(corner_turns(surface))
    if call == HOLES:
        return [how_many_holes(surface)]
    if call == ROWS:
        return counted(ring_lengths(surface.eastern))
    if call == COLUMNS:
        return counted(ring_lengths(surface.northern))
    if call == NAME:
        return counted(name_of(surface))
    if call == ONE:
        return tell_one(surface)
    if call == TOPS:
        return counted(tops(surface))
    # Nothing but the named calls is handed in, so what is left here is state.
    return [len(surface.eastern)] + surface.eastern + surface.northern


def answer_begun(desk, call, numbers, lists):
    if call == GLUE:
        return glue(desk, lists[0], lists[1])
    if call in (BANDS, LONGEST, LAY):
        return answer_direction(desk, call, numbers[0], numbers[1])
    if call == COUNTS:
        return tell_counts(desk.surface, numbers[0])
    if call == SHEAR:
        return change(desk, sheared(desk.surface))
    if call == UNSHEAR:
        return change(desk, sheared_back(desk.surface))
    if call == TURN:
        return change(desk, turned(desk.surface))
    return tell(desk.surface, call)


def answer(desk, call, numbers, lists):
    if call == BEGIN:
        return begin(desk, numbers[0])
    if desk.surface is None:
        return [NOT_BEGUN]
    return answer_begun(desk, call, numbers, lists)


def answers(calls):
    desk = Desk()
    told = []
    for cut in cut_into_calls(calls):
        told.extend(counted(answer(desk, cut[0], cut[1], cut[2])))
    return told
