"""Readings of a stretch: what they cost, which one is told, and how many there are."""

WORD_COST = 3
# More than any reading costs: no text has places enough to come near it.
NEVER = 1000000000000
NO_END = 0
NUMBERS_OF_PLACE = 3
# 2 to the 64th: how many readings there are is told modulo this.
WAYS_MODULUS = 18446744073709551616


class Rest:
    """What readings cost behind a place: from each state if no word ends there, and if one does; NEVER: not at all."""

    def __init__(self, going, ended):
        self.going = going
        self.ended = ended


def rest_behind_last(steps):
    # No reading goes on within a word behind the last place: a word has to end there.
    return Rest([NEVER] * steps[-1].behind, 0)


def least_from(moves, rest):
    """The least cost from a state on that has these moves."""
    least = NEVER
    for move in moves:
        behind = rest.going[move.state]
        if move.word is not None and WORD_COST + rest.ended < behind:
            behind = WORD_COST + rest.ended
        if move.cost + behind < least:
            least = move.cost + behind
    return least


def rest_ahead(step, rest):
    """What readings cost ahead of a place, and so behind the one before it."""
    costs = [least_from(step.moves[state], rest) for state in range(step.ahead)]
    return Rest(costs, costs[0])


def least_cost(steps):
    """The least cost of a stretch's readings; NEVER if there are none."""
    rest = rest_behind_last(steps)
    for step in reversed(steps):
        rest = rest_ahead(step, rest)
    return rest.ended


def rests_behind(steps):
    """For each place, in their order, what readings cost behind it."""
    found = [rest_behind_last(steps)]
    for step in reversed(steps[1:]):
        found.append(rest_ahead(step, found[-1]))
    return list(reversed(found))


def told_move(moves, rest):
    """A pair: the move that the told reading makes, and NO_END or one more than the number of the word that ends.

    None if no reading goes on.
    """
    # Moves stand in the order of readings, and no end before an end: of those that cost the same the first stays.
    least = NEVER
    told = None
    for move in moves:
        if move.cost + rest.going[move.state] < least:
            least = move.cost + rest.going[move.state]
            told = (move, NO_END)
        if move.word is not None and move.cost + WORD_COST + rest.ended < least:
            least = move.cost + WORD_COST + rest.ended
            told = (move, move.word + 1)
    return told


def told_row(steps):
    """The row of the reading that's told; an empty one if there's no reading."""
    row = []
    state = 0
    for step, rest in zip(steps, rests_behind(steps)):
        told = told_move(step.moves[state], rest)
        if told is None:
            return []
        row.extend([told[0].sign, told[0].sound, told[1]])
        state = told[0].state if told[1] == NO_END else 0
    return row


def words_of_row(row, words):
    """The words of a reading's row, one behind another."""
    return [words[end - 1] for end in row[2::NUMBERS_OF_PLACE] if end != NO_END]


def ways_from(moves, going, ended):
    """How many readings go on from a state that has these moves; going and ended are how many do behind the place."""
    total = 0
    for move in moves:
        behind = going[move.state]
        if move.word is not None:
            behind = behind + ended
        total = total + move.ways * behind
    return total % WAYS_MODULUS


def ways_of(steps):
    """How many readings a stretch has, modulo 2 to the 64th."""
    going = [0] * steps[-1].behind
    ended = 1
    for step in reversed(steps):
        going = [ways_from(step.moves[state], going, ended) for state in range(step.ahead)]
        ended = going[0]
    return ended
