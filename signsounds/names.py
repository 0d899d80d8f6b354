"""Names of signs, and the letters and numbers they're made of, read by a cursor."""

from signsounds.letters import FIRST_DIGIT, is_capital, is_digit, is_letter

NO_LETTER = 0
NO_NUMBER = 0
MOST_IN_NAME = 999


def letter_read(cursor):
    """The small letter that comes; NO_LETTER if none does."""
    byte = cursor.byte()
    if not is_letter(byte):
        return NO_LETTER
    cursor.step()
    return byte


def letters_read(cursor):
    """All the small letters that come, as a tuple."""
    found = []
    while is_letter(cursor.byte()):
        found.append(letter_read(cursor))
    return tuple(found)


def number_read(cursor, most):
    """The number from 1 to most that comes, without needless 0; NO_NUMBER if none does."""
    if cursor.byte() == FIRST_DIGIT:
        return NO_NUMBER
    number = NO_NUMBER
    while is_digit(cursor.byte()):
        number = number * 10 + cursor.byte() - FIRST_DIGIT
        if number > most:
            return NO_NUMBER
        cursor.step()
    return number


def name_read(cursor):
    """The name that comes; None if none does. Names are tuples that compare as names are in order."""
    first = cursor.byte()
    if not is_capital(first):
        return None
    cursor.step()
    # NO_LETTER is below every letter: a name without one stands first.
    second = letter_read(cursor)
    number = number_read(cursor, MOST_IN_NAME)
    if number == NO_NUMBER:
        return None
    return (first, second, number, letter_read(cursor))
