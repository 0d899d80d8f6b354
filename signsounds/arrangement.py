"""Arrangements: the row of an arrangement's text, which is its places and the breaks between them."""

from signsounds.cursor import NO_BYTE, Cursor
from signsounds.letters import BLANK, FIRST_DIGIT, LINE_END
from signsounds.names import NO_NUMBER, letters_read, name_read, number_read

MOST_LINES = 512
MOST_IN_LINE = 64
MOST_IN_RING = 16
MOST_PIECES = 64
WIDEST_GAP = 32

LOST = (46, 46, 46)
RING_OPENS = 60
RING_CLOSES = 62
OPENS = 40
CLOSES = 41
NESTS_OPEN = 91
NESTS_CLOSE = 93
NEST_BEHIND = 59
GAP = 95
MIRRORED = 126
DAMAGED = 37
UNCERTAIN = 63

QUARTERS = (1, 2, 3, 4)
# nw n ne w c e sw s se
NEST_PLACES = ((110, 119), (110,), (110, 101), (119,), (99,), (101,), (115, 119), (115,), (115, 101))

# How tightly the bytes : * & tie the parts on either side.
TIES = {58: 1, 42: 2, 38: 3}
UNTIED = 0
TIGHTER_THAN_ALL = 4
SINGLE = -1

NO_PIECE = 0
SIGN_PIECE = 1
GAP_PIECE = 2


class Place:
    """A piece that a sign stood at, with its marks: a sign by its name, or a gap (its name is None) by its size."""

    def __init__(self, name, size, mirrored, damaged, uncertain):
        self.name = name
        self.size = size
        self.mirrored = mirrored
        self.damaged = damaged
        self.uncertain = uncertain


class Row:
    """A text's row: its places, and for each break how many places stand before it."""

    def __init__(self):
        self.places = []
        self.breaks = []


class Level:
    """A part that's being read: what byte closes it, what ties its last piece to the left, its loosest tie so far."""

    def __init__(self, closer):
        self.closer = closer
        self.left = UNTIED
        self.loosest = TIGHTER_THAN_ALL


def quarters_read(cursor):
    """The damaged quarters that come, none without their mark; None where the mark has no quarter behind it."""
    if not cursor.took(DAMAGED):
        return ()
    found = []
    for quarter in QUARTERS:
        if cursor.took(FIRST_DIGIT + quarter):
            found.append(quarter)
    if len(found) == 0:
        return None
    return tuple(found)


def marked_sign_read(cursor, row):
    """Whether a sign comes; if it does, all of it but its nests is read."""
    name = name_read(cursor)
    if name is None:
        return False
    mirrored = cursor.took(MIRRORED)
    damaged = quarters_read(cursor)
    if damaged is None:
        return False
    uncertain = cursor.took(UNCERTAIN)
    row.places.append(Place(name, 0, mirrored, damaged, uncertain))
    return True


def gap_read(cursor, row):
    """Whether the rest of a gap comes behind its first byte; if it does, it's read."""
    size = number_read(cursor, WIDEST_GAP)
    if size == NO_NUMBER:
        return False
    damaged = quarters_read(cursor)
    # Nothing stood at a gap that isn't damaged all over: it's a piece, but no place.
    if damaged == QUARTERS:
        row.places.append(Place(None, size, False, damaged, False))
    return damaged is not None


def piece_read(cursor, row):
    """What piece comes: SIGN_PIECE, GAP_PIECE or NO_PIECE."""
    if cursor.took(GAP):
        return GAP_PIECE if gap_read(cursor, row) else NO_PIECE
    return SIGN_PIECE if marked_sign_read(cursor, row) else NO_PIECE


def nest_begun(cursor, levels):
    """Whether a nest's place comes; if it does, a part is to come there."""
    levels.append(Level(NESTS_CLOSE))
    return letters_read(cursor) in NEST_PLACES


def part_tied(cursor, levels):
    """Whether right bytes come behind a piece, up to a tie, a nest's place or, with no level left, the block's end."""
    # A part in parentheses needs them only, and may have them only, where something ties it from without
    # more tightly than its own loosest tie: so a group is never untied, and a column is never in a column.
    inner = SINGLE
    while len(levels) > 0:
        level = levels[-1]
        tie = TIES.get(cursor.byte(), UNTIED)
        if max(level.left, tie) <= inner:
            return False
        if tie != UNTIED:
            cursor.step()
            level.left = tie
            level.loosest = min(level.loosest, tie)
            return True
        levels.pop()
        if level.closer == NESTS_CLOSE and cursor.took(NEST_BEHIND):
            return nest_begun(cursor, levels)
        if level.closer != NO_BYTE and not cursor.took(level.closer):
            return False
        # A sign with its nests is a single again.
        inner = level.loosest if level.closer == CLOSES else SINGLE
    return True


def block_read(cursor, row):
    """Whether a block comes; if it does, it's read."""
    levels = [Level(NO_BYTE)]
    for piece in range(MOST_PIECES):
        while cursor.took(OPENS):
            levels.append(Level(CLOSES))
        kind = piece_read(cursor, row)
        if kind == NO_PIECE:
            return False
        if kind == SIGN_PIECE and cursor.took(NESTS_OPEN):
            right = nest_begun(cursor, levels)
        else:
            right = part_tied(cursor, levels)
        if not right:
            return False
        if len(levels) == 0:
            return True
    return False


def several_read(cursor, row, each_read, most, closer):
    """Whether one to most of a kind come, a blank between, and the closer behind them; if so, they're read."""
    for number in range(most):
        if not each_read(cursor, row):
            return False
        if cursor.took(closer):
            return True
        if not cursor.took(BLANK):
            return False
    return False


def item_read(cursor, row):
    """Whether a block, a ring or lost signs come; if they do, they're read."""
    if cursor.byte() == LOST[0]:
        row.breaks.append(len(row.places))
        return cursor.took_all(LOST)
    if cursor.took(RING_OPENS):
        return several_read(cursor, row, block_read, MOST_IN_RING, RING_CLOSES)
    return block_read(cursor, row)


def row_of(text):
    """The row of an arrangement's text; None if the text is none's."""
    cursor = Cursor(text)
    row = Row()
    for line in range(MOST_LINES):
        if not several_read(cursor, row, item_read, MOST_IN_LINE, LINE_END):
            return None
        if cursor.byte() == NO_BYTE:
            return row
    return None
