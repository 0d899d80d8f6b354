"""Stretches: places without a break in them, and what they're read by."""


class Stretch:
    """The list's signs, the lexicon's words, and for each place the signs that it may have been, by their numbers."""

    def __init__(self, signs, words, places):
        self.signs = signs
        self.words = words
        self.places = places
