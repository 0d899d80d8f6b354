"""Bytes that several kinds of texts have, and what kind of byte one is."""

LINE_END = 10
BLANK = 32
FIRST_DIGIT = 48
LAST_DIGIT = 57
FIRST_CAPITAL = 65
LAST_CAPITAL = 90
FIRST_LETTER = 97
LAST_LETTER = 122


def is_digit(byte):
    return FIRST_DIGIT <= byte <= LAST_DIGIT


def is_capital(byte):
    return FIRST_CAPITAL <= byte <= LAST_CAPITAL


def is_letter(byte):
    """Whether it's a small letter: words and sounds have no others."""
    return FIRST_LETTER <= byte <= LAST_LETTER
