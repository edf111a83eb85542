"""Texts of patterns: read into a dict from a pattern's letters and dots to the digits at its gaps."""

from partlinedesk.letters import DOT, ZERO, is_digit, is_parting, is_small

MOST_BYTES = 262144
MOST_WORDS = 4096
MOST_SIGNS = 32


def words_of(text):
    words = []
    word = []
    for byte in text:
        if not is_parting(byte):
            word.append(byte)
        elif len(word) > 0:
            words.append(word)
            word = []
    if len(word) > 0:
        words.append(word)
    return words


def signs_of(word):
    return tuple([byte for byte in word if not is_digit(byte)])


def has_two_digits_in_a_row(word):
    for k in range(1, len(word)):
        if is_digit(word[k - 1]) and is_digit(word[k]):
            return True
    return False


def digits_of(word):
    # One more than there are signs: a gap before each, and one behind the last.
    digits = [0]
    for byte in word:
        if is_digit(byte):
            digits[len(digits) - 1] = byte - ZERO
        else:
            digits.append(0)
    return digits


def without_end_dots(signs):
    first = 0
    end = len(signs)
    if first < end and signs[first] == DOT:
        first += 1
    if first < end and signs[end - 1] == DOT:
        end -= 1
    return signs[first:end]


def is_pattern(word):
    signs = signs_of(word)
    if len(signs) > MOST_SIGNS or has_two_digits_in_a_row(word):
        return False
    inner = without_end_dots(signs)
    return len(inner) > 0 and all([is_small(sign) for sign in inner])


def is_text_of_patterns(text):
    if len(text) > MOST_BYTES:
        return False
    words = words_of(text)
    return len(words) <= MOST_WORDS and all([is_pattern(word) for word in words])


def raise_digits(greatest, start, digits):
    for k, digit in enumerate(digits):
        greatest[start + k] = max(greatest[start + k], digit)


# Patterns with the same signs stand at the same spots of every word,
# so the greatest of their digits at each gap is all that is needed of them.
def patterns_of(words):
    patterns = {}
    for word in words:
        signs = signs_of(word)
        if signs not in patterns:
            patterns[signs] = [0] * (len(signs) + 1)
        raise_digits(patterns[signs], 0, digits_of(word))
    return patterns
