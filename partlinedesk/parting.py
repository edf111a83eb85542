"""Where patterns let a word be parted."""

from partlinedesk.letters import DOT, is_letter, made_small
from partlinedesk.patterns import MOST_SIGNS, raise_digits

MOST_LETTERS = 64


def is_count(number):
    return 1 <= number <= MOST_LETTERS


def can_be_asked(left, right, word):
    if not (is_count(len(word)) and is_count(left) and is_count(right)):
        return False
    return all([is_letter(byte) for byte in word])


def dotted(word):
    return tuple([DOT] + [made_small(byte) for byte in word] + [DOT])


# No pattern is longer than MOST_SIGNS, so looking up every piece of the word
# up to that length finds all that stand in it, however many patterns there are.
def gap_digits(patterns, signs):
    greatest = [0] * (len(signs) + 1)
    for start in range(len(signs)):
        last_end = min(len(signs), start + MOST_SIGNS)
        for end in range(start + 1, last_end + 1):
            raise_digits(greatest, start, patterns.get(signs[start:end], []))
    return greatest


def partings(patterns, left, right, word):
    greatest = gap_digits(patterns, dotted(word))
    marks = []
    for before in range(1, len(word) + 1):
        behind = len(word) - before
        # The dot ahead of the word moves each gap on by one.
        odd = greatest[before + 1] % 2 == 1
        # right is 1 at least, so the gap behind the last letter never counts.
        marks.append(1 if odd and before >= left and behind >= right else 0)
    return marks
