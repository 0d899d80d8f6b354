"""Steps: what can be said at each place of a stretch, and where in the lexicon's words that leads."""

from signsounds.tree import ROOT, Tree, tree_of_words

SILENT = 8
SILENT_COST = 7
COST_OF_SIGN_BEFORE = 2


class Offer:
    """The ways to say the same letters at a place: how many there are, and of the cheapest the first."""

    def __init__(self, cost, sign, sound):
        self.cost = cost
        self.sign = sign
        self.sound = sound
        self.ways = 1


class Move:
    """An offer that's taken: the state it leads to, and the number of the word that may end there, None if none may."""

    def __init__(self, offer, state, word):
        self.cost = offer.cost
        self.sign = offer.sign
        self.sound = offer.sound
        self.ways = offer.ways
        self.state = state
        self.word = word


class Step:
    """A place: the moves from each state, and how many states there are ahead of it and behind it."""

    def __init__(self, moves, ahead, behind):
        self.moves = moves
        self.ahead = ahead
        self.behind = behind


def offer_added(offers, letters, offer):
    if letters in offers:
        known = offers[letters]
        offer.ways = known.ways + 1
        # Offers come in the order of readings: of those that cost the same the first stays.
        if known.cost <= offer.cost:
            known.ways = offer.ways
            return
    offers[letters] = offer


def offers_of(numbers, signs):
    """The tree of what can be said at a place that may have been the signs of these numbers."""
    offers = {}
    for before, number in enumerate(numbers):
        cost = COST_OF_SIGN_BEFORE * before
        for sound, letters in enumerate(signs[number].sounds):
            offer_added(offers, letters, Offer(cost + sound, number, sound))
        offer_added(offers, (), Offer(cost + SILENT_COST, number, SILENT))
    tree = Tree()
    for letters, offer in offers.items():
        tree.hold(letters, offer)
    return tree


def offers_from(node, words, offers):
    """Pairs of an offer and the node of the words' tree that it leads to, in the order of readings."""
    found = []
    # Both trees are gone down together, so that no letter is tried that one of them hasn't.
    pairs = [(node, ROOT)]
    while len(pairs) > 0:
        pair = pairs.pop()
        below = words.below[pair[0]]
        if offers.held[pair[1]] is not None:
            found.append((offers.held[pair[1]], pair[0]))
        for letter, behind in offers.below[pair[1]].items():
            if letter in below:
                pairs.append((below[letter], behind))
    return sorted(found, key=lambda each: (each[0].sign, each[0].sound))


class States:
    """The nodes of the words' tree that readings come to, numbered as they're found: 0 where no word is begun."""

    def __init__(self, words):
        self.words = words
        self.nodes = [ROOT]
        self.numbers = {ROOT: 0}

    def number_of(self, node):
        if node not in self.numbers:
            self.numbers[node] = len(self.nodes)
            self.nodes.append(node)
        return self.numbers[node]

    def moves_from(self, state, offers):
        found = []
        for offer, node in offers_from(self.nodes[state], self.words, offers):
            found.append(Move(offer, self.number_of(node), self.words.held[node]))
        return found


def steps_of(stretch):
    """The steps of a stretch, one for each place.

    A move from a state ahead of a place leads to a state behind it, and that's one ahead of the next place.
    """
    states = States(tree_of_words(stretch.words))
    offers = {}
    moves = {}
    found = []
    for numbers in stretch.places:
        if numbers not in offers:
            offers[numbers] = offers_of(numbers, stretch.signs)
            moves[numbers] = []
        # Places that may have been the same signs share their moves: only from new states they're still to be found.
        shared = moves[numbers]
        done = len(shared)
        ahead = len(states.nodes)
        for state in range(done, ahead):
            shared.append(states.moves_from(state, offers[numbers]))
        found.append(Step(shared, ahead, len(states.nodes)))
    return found
