"""The calls on one object, read from one list and answered in one list."""

from partlinedesk.lines import begins_in_width, things_of
from partlinedesk.parting import can_be_asked, partings
from partlinedesk.patterns import is_text_of_patterns, patterns_of, words_of

BEGIN = 0
PATTERNS = 1
PARTED = 2
PLACES = 4

REFUSED = -1

# By the call's number: how many whole numbers stand between it and its row.
NUMBERS_AHEAD = {1: 0, 2: 2, 4: 3}


class Desk:
    def __init__(self):
        self.patterns = {}

    def begin(self):
        self.patterns = {}
        return [0]

    def take_patterns(self, text):
        if not is_text_of_patterns(text):
            return [REFUSED]
        words = words_of(text)
        self.patterns = patterns_of(words)
        return [len(words)]

    def parted(self, left, right, word):
        if not can_be_asked(left, right, word):
            return [REFUSED]
        marks = partings(self.patterns, left, right, word)
        return [sum(marks)] + marks


def places(width, i, j, numbers):
    found = begins_in_width(things_of(numbers), i, j, width)
    if found is None:
        return [REFUSED]
    return [len(found)] + found


def split_calls(calls):
    parts = []
    at = 0
    while at < len(calls):
        call = calls[at]
        if call == BEGIN:
            parts.append((call, [], []))
            at += 1
        else:
            count_at = at + 1 + NUMBERS_AHEAD[call]
            end = count_at + 1 + calls[count_at]
            parts.append((call, calls[at + 1:count_at], calls[count_at + 1:end]))
            at = end
    return parts


def answer(desk, call, numbers, row):
    if call == PATTERNS:
        return desk.take_patterns(row)
    if call == PARTED:
        return desk.parted(numbers[0], numbers[1], row)
    if call == PLACES:
        return places(numbers[0], numbers[1], numbers[2], row)
    return desk.begin()


def answers(calls):
    desk = Desk()
    given = []
    for call, numbers, row in split_calls(calls):
        answered = answer(desk, call, numbers, row)
        given.append(len(answered))
        given.extend(answered)
    return given
