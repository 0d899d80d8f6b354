"""Readings' rows: whether a list of numbers is the row of a reading, and what that costs."""

from signsounds.readings import NEVER, NO_END, NUMBERS_OF_PLACE, WORD_COST
from signsounds.steps import COST_OF_SIGN_BEFORE, SILENT, SILENT_COST
from signsounds.tree import ROOT, tree_of_words


def letters_of(sign, sound):
    """What the sign says by its sound of this number; None if it has none such."""
    if sound == SILENT:
        return ()
    if sound >= len(sign.sounds):
        return None
    return sign.sounds[sound]


def node_behind(tree, node, letters):
    """The node that the letters lead to from a node; None if they lead to none."""
    for letter in letters:
        if letter not in tree.below[node]:
            return None
        node = tree.below[node][letter]
    return node


def choice_cost(numbers, sign, sound):
    """The cost of a place that may have been the signs of these numbers, without its word's."""
    return COST_OF_SIGN_BEFORE * numbers.index(sign) + (SILENT_COST if sound == SILENT else sound)


def cost_of_row(row, stretch):
    """The cost of the reading of the stretch whose row it is; NEVER if it's none's."""
    if len(row) != NUMBERS_OF_PLACE * len(stretch.places) or row[-1] == NO_END:
        return NEVER
    tree = tree_of_words(stretch.words)
    node = ROOT
    total = 0
    for place, numbers in enumerate(stretch.places):
        sign = row[NUMBERS_OF_PLACE * place]
        sound = row[NUMBERS_OF_PLACE * place + 1]
        end = row[NUMBERS_OF_PLACE * place + 2]
        if sign not in numbers:
            return NEVER
        letters = letters_of(stretch.signs[sign], sound)
        if letters is None:
            return NEVER
        node = node_behind(tree, node, letters)
        if node is None:
            return NEVER
        total = total + choice_cost(numbers, sign, sound)
        if end != NO_END:
            if tree.held[node] != end - 1:
                return NEVER
            total = total + WORD_COST
            node = ROOT
    return total
