"""Calls written by name, and answers cut apart again."""

import random
from itertools import permutations
from math import gcd

from gluedsquaresdesk.straightways import answers

NUMBERS = {
    "begin": 0, "glue": 1, "corners": 2, "holes": 3, "rows": 4, "columns": 5, "name": 6, "state": 7, "bands": 8,
    "longest": 9, "one": 10, "counts": 11, "tops": 12, "shear": 13, "unshear": 14, "turn": 15, "lay": 16,
}

L_SHAPED = ([1, 0, 2], [2, 1, 0])
SMOOTH_ABOVE_ROUGH = ([1, 0, 2, 3], [2, 1, 3, 0])
HIGH_AS_ALL = ([1, 2, 0, 4, 5, 3], [3, 4, 5, 1, 0, 2])


def written(*calls):
    """The list to hand in: each call is a tuple of its name, its numbers and its lists."""
    numbers = []
    for call in calls:
        numbers.append(NUMBERS[call[0]])
        for given in call[1:]:
            numbers += [len(given)] + given if isinstance(given, list) else [given]
    return numbers


def cut(told):
    """The answers, one list for each call."""
    found = []
    at = 0
    while at < len(told):
        behind = at + 1 + told[at]
        if behind > len(told):
            raise AssertionError("the last answer is cut off")
        found.append(told[at + 1:behind])
        at = behind
    return found


def ask(*calls):
    return cut(answers(written(*calls)))


def ask_glued(eastern, northern, *calls):
    """What the calls answer behind a begin and a glue that are not refused."""
    told = ask(("begin", len(eastern)), ("glue", eastern, northern), *calls)
    if told[0] != [0] or told[1][0] < 1:
        raise AssertionError("these squares are not glued")
    return told[2:]


def hang_together(eastern, northern):
    """Squares are merged side by side, in whatever order: not the way of the program."""
    part = list(range(len(eastern)))
    for step in (eastern, northern):
        for square, there in enumerate(step):
            old, new = part[square], part[there]
            part = [new if each == old else each for each in part]
    return len(set(part)) == 1


def all_glued(many):
    for eastern in permutations(range(many)):
        for northern in permutations(range(many)):
            if hang_together(eastern, northern):
                yield list(eastern), list(northern)


def some_glued(many, how_many, seed):
    chosen = random.Random(seed)
    found = []
    while len(found) < how_many:
        eastern, northern = chosen.sample(range(many), many), chosen.sample(range(many), many)
        if hang_together(eastern, northern):
            found.append((eastern, northern))
    return found


def directions(greatest):
    span = range(-greatest, greatest + 1)
    return [(p, q) for p in span for q in span if gcd(p, q) == 1]
