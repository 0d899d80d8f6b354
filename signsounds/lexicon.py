"""Lexicons: the words of a lexicon's text, and the place where a text that is none is at fault."""

from signsounds.letters import LAST_LETTER, LINE_END, is_letter

MOST_LETTERS = 32
MOST_WORDS = 4096
NO_FAULT = -1


def last_word_from(begun):
    """The last, in order, of all words that begin so."""
    return begun + [LAST_LETTER] * (MOST_LETTERS - len(begun))


def can_become_word(begun, before):
    """Whether some word begins so and stands behind the word before."""
    # The length is asked by itself: letters beyond the last place would still compare as greater.
    return len(begun) <= MOST_LETTERS and last_word_from(begun) > before


def fault_place(text):
    """NO_FAULT for a lexicon's text; else how many bytes of it some lexicon's text begins with."""
    # No letters at all stand before every word, so the first word needs no case of its own,
    # and an empty line is a fault like any other word that doesn't stand behind the one before.
    before = []
    begun = []
    ended = 0
    for place, byte in enumerate(text):
        if byte == LINE_END:
            if begun <= before:
                return place
            before = begun
            begun = []
            ended = ended + 1
        else:
            if ended == MOST_WORDS or not is_letter(byte):
                return place
            begun = begun + [byte]
            if not can_become_word(begun, before):
                return place
    if ended == 0 or len(begun) > 0:
        return len(text)
    return NO_FAULT


def words_of(text):
    """The words of a text that is a lexicon's, each a list of its letters."""
    found = []
    begun = []
    for byte in text:
        if byte == LINE_END:
            found.append(begun)
            begun = []
        else:
            begun.append(byte)
    return found
