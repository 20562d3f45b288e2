"""The numbers of the calls, and how a list is cut into calls."""

BEGIN = 0
GLUE = 1
CORNERS = 2
HOLES = 3
ROWS = 4
COLUMNS = 5
NAME = 6
STATE = 7
BANDS = 8
LONGEST = 9
ONE = 10
COUNTS = 11
TOPS = 12
SHEAR = 13
UNSHEAR = 14
TURN = 15
LAY = 16


def how_many_numbers(call):
    if call in (BANDS, LONGEST, LAY):
        return 2
    if call in (BEGIN, COUNTS):
        return 1
    return 0


def how_many_lists(call):
    return 2 if call == GLUE else 0


# Of each call: its number, the whole numbers that are handed to it, the lists that are handed to it.
def cut_into_calls(calls):
    found = []
    at = 0
    while at < len(calls):
        call = calls[at]
        at += 1
        numbers = calls[at:at + how_many_numbers(call)]
        at += how_many_numbers(call)
        lists = []
        for place in range(how_many_lists(call)):
            behind = at + 1 + calls[at]
            lists.append(calls[at + 1:behind])
            at = behind
        found.append((call, numbers, lists))
    return found
