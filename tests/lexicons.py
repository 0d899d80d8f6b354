"""What the tests of lexicons share: texts written briefly, and the promises told once more, naively."""

import re

LETTERS = "abcdefghijklmnopqrstuvwxyz"

WRONG_TEXTS = ("", "a", "/", "a//", "A/", "a b/", "a/a/", "b/a/", "ab/a/", "a" * 33 + "/", "z" * 32 + "/z/", "a/b")


def text(written):
    """The bytes of a text that's written with / for the byte 10."""
    return list(written.replace("/", "\n").encode("latin-1"))


def lexicon_text(found):
    """The lexicon's text of these words."""
    return text("".join(each + "/" for each in found))


def three_letter_words(count):
    """The first so many words of three letters, in order."""
    found = []
    for first in LETTERS:
        for second in LETTERS:
            for third in LETTERS:
                found.append(first + second + third)
    return found[:count]


def is_lexicon_text(given):
    """Whether a lexicon has this text, whatever its size in bytes."""
    whole = bytes(given)
    if re.fullmatch(rb"([a-z]{1,32}\n){1,4096}", whole) is None:
        return False
    found = whole.split(b"\n")[:-1]
    return all(found[n] < found[n + 1] for n in range(len(found) - 1))


def completions(given):
    """A lexicon's text that begins with these bytes is among these, if there's any."""
    whole = bytes(given)
    begun = whole.split(b"\n")[-1]
    # Of all words that begin so, the one filled up with z's is the last in order: if it doesn't
    # stand behind the word before, none does. Where no word is begun, any first word will do.
    filled = begun + b"z" * (32 - len(begun)) + b"\n"
    return [whole, whole[:len(whole) - len(begun)] + filled]


def told_place(given):
    """How many bytes, as many as can be, some lexicon's text begins with."""
    for size in range(len(given), -1, -1):
        if any(is_lexicon_text(each) for each in completions(given[:size])):
            return size
    raise AssertionError("every lexicon's text begins with no bytes")


def told_words(given):
    """What words is to answer of a text of at most 65,536 bytes."""
    if is_lexicon_text(given):
        return [given.count(10)]
    return [-6, told_place(given)]
