"""A line of things, and where each begins when the line fills a width."""

PRINTED = 0
BLANK = 1
PLACE = 2

KIND = 0
WIDTH = 1
WIDER = 2
NARROWER = 3
NUMBERS_OF_A_THING = 4


def things_of(numbers):
    return [numbers[k:k + NUMBERS_OF_A_THING] for k in range(0, len(numbers), NUMBERS_OF_A_THING)]


def line_of(things, i, j):
    for k in range(i + 1, j):
        if things[k][KIND] == PRINTED:
            return things[k:j]
    return []


def end_width(things, j):
    if j < len(things) and things[j][KIND] == PLACE:
        return things[j][WIDTH]
    return 0


def length_of(things, line, j):
    return sum([thing[WIDTH] for thing in line if thing[KIND] != PLACE]) + end_width(things, j)


def can_give(line, give):
    return sum([thing[give] for thing in line if thing[KIND] == BLANK])


def part_of(t, given, s):
    if s == 0:
        return 0
    return t * given // s


# The part up to a blank less the part before it, not the blank's own share rounded:
# so what is lost in rounding is made up further on, and all parts together are t.
def blank_parts(line, give, t):
    s = can_give(line, give)
    parts = []
    given = 0
    for thing in line:
        before = given
        if thing[KIND] == BLANK:
            given += thing[give]
        parts.append(part_of(t, given, s) - part_of(t, before, s))
    return parts


def begins(line, give, t):
    sign = 1 if give == WIDER else -1
    found = []
    at = 0
    for thing, part in zip(line, blank_parts(line, give, t)):
        found.append(at)
        if thing[KIND] != PLACE:
            at += thing[WIDTH] + sign * part
    return found


# None where the line can't be in the width.
def begins_in_width(things, i, j, width):
    line = line_of(things, i, j)
    missing = width - length_of(things, line, j)
    if missing >= 0:
        return begins(line, WIDER, missing)
    if can_give(line, NARROWER) < -missing:
        return None
    return begins(line, NARROWER, -missing)
