"""Directions of whole numbers: p to the east, q to the north."""

GREATEST = 20


def common_part(one, other):
    while other != 0:
        rest = one % other
        one = other
        other = rest
    return one


def has_no_common_part(p, q):
    return common_part(abs(p), abs(q)) == 1


# The size is looked at first: numbers beyond it are refused, whatever they have in common.
def is_direction(p, q):
    if abs(p) > GREATEST or abs(q) > GREATEST:
        return False
    return has_no_common_part(p, q)


# Of a direction and the one that goes against it, one alone is told: the bands are the same in both.
def directions_up_to(greatest):
    found = [(1, 0)]
    for q in range(1, greatest + 1):
        for p in range(-greatest, greatest + 1):
            if has_no_common_part(p, q):
                found.append((p, q))
    return found
