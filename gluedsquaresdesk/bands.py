"""Surfaces sheared, turned and laid in a direction, and the bands that are found there."""

from gluedsquaresdesk.directions import directions_up_to
from gluedsquaresdesk.surface import Surface, backward, once_round, rings

NO_ROW = -1
MOST_BANDS = 6
FAR_ENOUGH = 5


def sheared(surface):
    western = backward(surface.eastern)
    return Surface(list(surface.eastern), [surface.northern[square] for square in western])


def sheared_back(surface):
    return Surface(list(surface.eastern), [surface.northern[square] for square in surface.eastern])


def turned(surface):
    return Surface(backward(surface.northern), list(surface.eastern))


def sheared_back_often(surface, many):
    lying = surface
    for again in range(many):
        lying = sheared_back(lying)
    for again in range(-many):
        lying = sheared(lying)
    return lying


def laid(surface, p, q):
    lying = surface
    while q != 0:
        many = p // q
        rest = p - many * q
        lying = turned(sheared_back_often(lying, many))
        p = -q
        q = rest
    if p < 0:
        lying = turned(turned(lying))
    return lying


def is_smooth(row, around):
    return all([around[square] == square for square in row])


def tops(surface):
    around = once_round(surface)
    return [1 if is_smooth(row, around) else 0 for row in rings(surface.eastern)]


def row_places(rows, many):
    places = [0] * many
    for place in range(len(rows)):
        for square in rows[place]:
            places[square] = place
    return places


def rows_above(surface, rows):
    around = once_round(surface)
    places = row_places(rows, len(surface.eastern))
    above = []
    for row in rows:
        if is_smooth(row, around):
            above.append(places[surface.northern[row[0]]])
        else:
            above.append(NO_ROW)
    return above


# This ends: no two rows have one row above them, and none has the lowest one above it.
def height_from(lowest, above):
    height = 1
    place = above[lowest]
    while place != NO_ROW:
        height += 1
        place = above[place]
    return height


def bands_to_east(surface):
    rows = rings(surface.eastern)
    above = rows_above(surface, rows)
    found = []
    for place in range(len(rows)):
        if place not in above:
            found.append((len(rows[place]), height_from(place, above)))
    # Without a lowest row every row is smooth and they go round, all of one length.
    if len(found) == 0:
        found.append((len(rows[0]), len(rows)))
    return sorted(found)


def bands_in(surface, p, q):
    return bands_to_east(laid(surface, p, q))


def longest_in(surface, p, q):
    return max([band[0] for band in bands_in(surface, p, q)])


def first_with_one_band(surface):
    for direction in directions_up_to(FAR_ENOUGH):
        if len(bands_in(surface, direction[0], direction[1])) == 1:
            return direction
    return None


# There are never more bands than squares, so six places hold whatever comes.
def directions_by_bands(surface, greatest):
    many = [0] * MOST_BANDS
    for direction in directions_up_to(greatest):
        bands = bands_in(surface, direction[0], direction[1])
        many[len(bands) - 1] += 1
    return many
