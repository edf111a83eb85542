"""Builds calls, asks the program, and splits what it gives back into one answer a call."""

from partlinedesk.setting import answers

PRINTED, BLANK, PLACE = 0, 1, 2


def as_bytes(text):
    return list(text.encode("latin-1")) if isinstance(text, str) else list(text)


def begin():
    return [0]


def patterns(text):
    row = as_bytes(text)
    return [1, len(row)] + row


def parted(left, right, word):
    row = as_bytes(word)
    return [2, left, right, len(row)] + row


def places(width, i, j, things):
    row = [number for thing in things for number in thing]
    return [4, width, i, j, len(row)] + row


def box(width, a=0, b=0):
    return (PRINTED, width, a, b)


def blank(width, wider=0, narrower=0):
    return (BLANK, width, wider, narrower)


def place(width, cost=0, marked=0):
    return (PLACE, width, cost, marked)


def split_answers(given):
    found = []
    at = 0
    while at < len(given):
        end = at + 1 + given[at]
        found.append(given[at + 1:end])
        at = end
    assert at == len(given), "the last answer is shorter than told"
    return found


def ask(*calls):
    """One answer a call. Each asking also holds the program to what is promised of every asking."""
    handed = [number for call in calls for number in call]
    before = list(handed)
    given = answers(handed)
    assert handed == before, "what was handed in was changed"
    assert type(given) is list and all(type(number) is int for number in given)
    assert answers(handed) == given, "a second time answered otherwise"
    found = split_answers(given)
    assert len(found) == len(calls), "not one answer a call"
    return found


def ask_last(*calls):
    """The last call's answer, after a begin."""
    return ask(begin(), *calls)[-1]
