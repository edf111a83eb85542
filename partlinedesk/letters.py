"""The bytes that patterns and words are made of."""

LINE_FEED = 10
BLANK = 32
DOT = 46
ZERO = 48
NINE = 57
CAPITAL_A = 65
CAPITAL_Z = 90
SMALL_A = 97
SMALL_Z = 122


def is_parting(byte):
    return byte == BLANK or byte == LINE_FEED


def is_digit(byte):
    return ZERO <= byte <= NINE


def is_small(byte):
    return SMALL_A <= byte <= SMALL_Z


def is_capital(byte):
    return CAPITAL_A <= byte <= CAPITAL_Z


def is_letter(byte):
    return is_small(byte) or is_capital(byte)


def made_small(byte):
    if is_capital(byte):
        return byte - CAPITAL_A + SMALL_A
    return byte
