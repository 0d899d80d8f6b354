"""What the tests of readings share: the run that the document tells, and small cases made by chance."""

import math

from tests import plain
from tests.lexicons import text

RUN_LIST = "sign A1 a ba/##./#.#/sign A2/#/"
RUN_LEXICON = "a/aba/ba/"
RUN_TEXT = "A1 A2 A1/"

NAMES = ("A1", "A2", "A2b", "Aa1", "B1", "B2")
SOUNDS = ("a", "b", "ab", "ba", "aa", "bab", "c")
SHAPES = ("#/", "##/", "##/##/", "#./.#/", ".#/#./")
PIECES = 4
MOST_READINGS = 4000


def bytes_of(i, j, b, t, x):
    """The arguments of a call, from texts written with / or with the byte 10."""
    return i, j, text(b), text(t), text(x)


def some_list(chance):
    written = ""
    for name in sorted(chance.sample(NAMES, chance.randint(1, 4)), key=plain.name_order):
        sounds = chance.sample(SOUNDS, chance.randint(0, 3))
        written += " ".join(["sign", name] + sounds) + "/" + chance.choice(SHAPES)
    return written.replace("/", "\n")


def some_piece(chance, names):
    kind = chance.random()
    if kind < 0.1:
        return "_%d%%1234" % chance.randint(1, 2)
    if kind < 0.15:
        return "_2"
    piece = chance.choice(names) + chance.choice(("", "", "~"))
    return piece + chance.choice(("", "", "%1", "%23", "%1234")) + chance.choice(("", "", "?"))


def some_text(chance, names):
    found = []
    for number in range(chance.randint(1, PIECES)):
        found.append(some_piece(chance, names))
        if chance.random() < 0.12:
            found.append("...")
    if chance.random() < 0.08:
        found.insert(0, "...")
    return " ".join(found) + "\n"


def some_words(chance, signs):
    """Words of which most can be said, some can't, and some go beyond others."""
    sounds = [sound for name, found, rows in signs for sound in found] + ["b"]
    words = {"".join(chance.choices(sounds, k=chance.randint(1, 3))) for number in range(chance.randint(1, 6))}
    words.add("".join(chance.choice("abc") for letter in range(chance.randint(1, 3))))
    return sorted(words)


def is_small(b, t):
    """Whether all readings of the text can be gone through one by one."""
    signs = plain.list_of(b)
    sets = [numbers for numbers in plain.row_of(signs, t) if numbers != "..."]
    sizes = [len(plain.choices(signs, numbers)) for numbers in sets]
    return math.prod(sizes) * 2 ** len(sizes) <= MOST_READINGS


def some_case(chance):
    """The arguments of a call, texts with the byte 10: most have a reading, some are refused with -4, -8 or -5."""
    while True:
        b = some_list(chance)
        t = some_text(chance, [sign[0] for sign in plain.list_of(b)])
        if is_small(b, t):
            break
    signs = plain.list_of(b)
    x = "".join(word + "\n" for word in some_words(chance, signs))
    count = len([each for each in plain.row_of(signs, t) if each != "..."])
    i = chance.randint(0, max(0, count - 1)) if chance.random() < 0.5 else 0
    j = chance.choice((i, i + 1, count - 1, count - 1, count - 1))
    return i, max(0, j), b, t, x
