"""The calls: each answers a list of whole numbers, a refusal as a number below 0."""

from signsounds.arrangement import row_of
from signsounds.letters import BLANK
from signsounds.lexicon import NO_FAULT, fault_place, words_of
from signsounds.possible import Possible
from signsounds.readings import NEVER, least_cost, told_row, ways_of, words_of_row
from signsounds.rows import cost_of_row
from signsounds.signs import signs_of
from signsounds.steps import steps_of
from signsounds.stretch import Stretch

MOST_LIST_BYTES = 1048576
MOST_TEXT_BYTES = 65536
MOST_ROW_NUMBERS = 65536

NOT_REFUSED = 0
TOO_LONG = -2
NO_RIGHT_LIST = -3
NOT_THERE = -4
NONE_FOUND = -5
NO_RIGHT_TEXT = -6
BROKEN = -8
SIGN_NOT_LISTED = -9
NO_LEXICON = -10


def words(x):
    """How many words the lexicon has; or -6 and the fault's place."""
    if len(x) > MOST_TEXT_BYTES:
        return [TOO_LONG]
    place = fault_place(x)
    if place != NO_FAULT:
        return [NO_RIGHT_TEXT, place]
    return [len(words_of(x))]


def word(k, x):
    """How many letters word k of the lexicon has, and they."""
    if len(x) > MOST_TEXT_BYTES:
        return [TOO_LONG]
    if fault_place(x) != NO_FAULT:
        return [NO_LEXICON]
    found = words_of(x)
    if k >= len(found):
        return [NOT_THERE]
    return [len(found[k])] + found[k]


def find(x, s):
    """The number of the lexicon's word s."""
    if len(x) > MOST_TEXT_BYTES:
        return [TOO_LONG]
    if fault_place(x) != NO_FAULT:
        return [NO_LEXICON]
    for number, letters in enumerate(words_of(x)):
        if letters == s:
            return [number]
    return [NONE_FOUND]


def asked(i, j, b, t, x):
    """A pair: the refusal, and if that's NOT_REFUSED the stretch of places i to j."""
    if len(b) > MOST_LIST_BYTES or len(t) > MOST_TEXT_BYTES or len(x) > MOST_TEXT_BYTES:
        return (TOO_LONG, None)
    signs = signs_of(b)
    if signs is None:
        return (NO_RIGHT_LIST, None)
    row = row_of(t)
    if row is None:
        return (NO_RIGHT_TEXT, None)
    if fault_place(x) != NO_FAULT:
        return (NO_LEXICON, None)
    possible = Possible(signs)
    if not all([possible.knows(place) for place in row.places]):
        return (SIGN_NOT_LISTED, None)
    if not i <= j < len(row.places):
        return (NOT_THERE, None)
    if any([i < before <= j for before in row.breaks]):
        return (BROKEN, None)
    places = [possible.signs_at(place) for place in row.places[i:j + 1]]
    return (NOT_REFUSED, Stretch(signs, words_of(x), places))


def cost(i, j, b, t, x):
    """The least cost of a reading of places i to j."""
    pair = asked(i, j, b, t, x)
    if pair[0] != NOT_REFUSED:
        return [pair[0]]
    least = least_cost(steps_of(pair[1]))
    if least == NEVER:
        return [NONE_FOUND]
    return [least]


def best(i, j, b, t, x):
    """How many numbers the row of the reading of places i to j that's told has, and they."""
    pair = asked(i, j, b, t, x)
    if pair[0] != NOT_REFUSED:
        return [pair[0]]
    row = told_row(steps_of(pair[1]))
    if len(row) == 0:
        return [NONE_FOUND]
    return [len(row)] + row


def said(i, j, b, t, x):
    """How many bytes the words of the reading of places i to j that's told have, a blank between, and they."""
    pair = asked(i, j, b, t, x)
    if pair[0] != NOT_REFUSED:
        return [pair[0]]
    row = told_row(steps_of(pair[1]))
    if len(row) == 0:
        return [NONE_FOUND]
    found = []
    for letters in words_of_row(row, pair[1].words):
        if len(found) > 0:
            found.append(BLANK)
        found.extend(letters)
    return [len(found)] + found


def check(i, j, b, t, x, r):
    """The cost of the reading of places i to j whose row r is."""
    if len(r) > MOST_ROW_NUMBERS:
        return [TOO_LONG]
    pair = asked(i, j, b, t, x)
    if pair[0] != NOT_REFUSED:
        return [pair[0]]
    found = cost_of_row(r, pair[1])
    if found == NEVER:
        return [NONE_FOUND]
    return [found]


def ways(i, j, b, t, x):
    """0, and how many readings of places i to j there are, modulo 2 to the 64th."""
    pair = asked(i, j, b, t, x)
    if pair[0] != NOT_REFUSED:
        return [pair[0]]
    return [NOT_REFUSED, ways_of(steps_of(pair[1]))]
