"""Lists of signs: the signs of a list's text."""

from signsounds.cursor import NO_BYTE, Cursor
from signsounds.letters import BLANK, LINE_END
from signsounds.names import letters_read, name_read

INK = 35
NO_INK = 46
SIGN_AND_BLANK = (115, 105, 103, 110, 32)
MOST_SIGNS = 512
MOST_SOUNDS = 8
MOST_LETTERS_OF_SOUND = 8
MOST_CELLS = 32


class Sign:
    """A sign of a list: its name, its sounds as tuples of letters, its shape's rows as lists of cells."""

    def __init__(self, name, sounds, rows):
        self.name = name
        self.sounds = sounds
        self.rows = rows


def sounds_read(cursor):
    """The sounds that come, each behind a blank; None if one is wrong."""
    found = []
    while cursor.took(BLANK):
        sound = letters_read(cursor)
        if not 1 <= len(sound) <= MOST_LETTERS_OF_SOUND or sound in found or len(found) == MOST_SOUNDS:
            return None
        found.append(sound)
    return found


def is_cell(byte):
    return byte == INK or byte == NO_INK


def cells_read(cursor):
    found = []
    while is_cell(cursor.byte()):
        found.append(cursor.byte())
        cursor.step()
    return found


def rows_read(cursor):
    """The rows of cells that come, each with its line's end; none where a line's end is lacking."""
    found = []
    while is_cell(cursor.byte()):
        found.append(cells_read(cursor))
        if not cursor.took(LINE_END):
            return []
    return found


def is_shape(rows):
    if not 1 <= len(rows) <= MOST_CELLS:
        return False
    width = len(rows[0])
    if width > MOST_CELLS or any([len(row) != width for row in rows]):
        return False
    edges = (rows[0], rows[-1], [row[0] for row in rows], [row[-1] for row in rows])
    return all([INK in edge for edge in edges])


def sign_read(cursor):
    """The sign that comes, its line and its rows; None if none does."""
    if not cursor.took_all(SIGN_AND_BLANK):
        return None
    name = name_read(cursor)
    if name is None:
        return None
    sounds = sounds_read(cursor)
    if sounds is None or not cursor.took(LINE_END):
        return None
    rows = rows_read(cursor)
    if not is_shape(rows):
        return None
    return Sign(name, sounds, rows)


def signs_of(text):
    """The signs of a list's text, as they're numbered; None if the text is no list's."""
    cursor = Cursor(text)
    found = []
    # The empty tuple is below every name, so the first sign needs no case of its own.
    before = ()
    while len(found) < MOST_SIGNS:
        sign = sign_read(cursor)
        if sign is None or sign.name <= before:
            return None
        found.append(sign)
        before = sign.name
        if cursor.byte() == NO_BYTE:
            return found
    return None
