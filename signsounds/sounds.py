"""The calls: each answers a list of whole numbers, a refusal as a number below 0."""

from signsounds.lexicon import NO_FAULT, fault_place, words_of

MOST_TEXT_BYTES = 65536

TOO_LONG = -2
NOT_THERE = -4
NO_RIGHT_TEXT = -6
NO_LEXICON = -10


def words(x):
    """How many words the lexicon has; or -6 and the fault's place."""
    if len(x) > MOST_TEXT_BYTES:
        return [TOO_LONG]
    place = fault_place(x)
    if place != NO_FAULT:
        return [NO_RIGHT_TEXT, place]
    return [len(words_of(x))]


def word(k, x):
    """How many letters word k of the lexicon has, and they."""
    if len(x) > MOST_TEXT_BYTES:
        return [TOO_LONG]
    if fault_place(x) != NO_FAULT:
        return [NO_LEXICON]
    found = words_of(x)
    if k >= len(found):
        return [NOT_THERE]
    return [len(found[k])] + found[k]
