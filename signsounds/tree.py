"""Trees of letters: rows of letters, found letter by letter."""

ROOT = 0


class Tree:
    """Each node is a beginning of the rows that are held, the root the empty one.

    below[node] tells by the letter which node comes behind it; held[node] is what's held with the row of letters
    that ends there, None if none does.
    """

    def __init__(self):
        self.below = [{}]
        self.held = [None]

    def hold(self, letters, what):
        node = ROOT
        for letter in letters:
            if letter not in self.below[node]:
                self.below[node][letter] = len(self.below)
                self.below.append({})
                self.held.append(None)
            node = self.below[node][letter]
        self.held[node] = what


def tree_of_words(words):
    """The tree that holds each word's number."""
    tree = Tree()
    for number, letters in enumerate(words):
        tree.hold(letters, number)
    return tree
