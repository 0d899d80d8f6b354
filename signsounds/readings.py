"""Readings of a stretch, and what they cost."""

WORD_COST = 3
# More than any reading costs: no text has places enough to come near it.
NEVER = 1000000000000


def least_from(moves, going, ended):
    """The least cost from one state on; going and ended as in costs_ahead."""
    least = NEVER
    for move in moves:
        rest = going[move.state]
        if move.word is not None and WORD_COST + ended < rest:
            rest = WORD_COST + ended
        if move.cost + rest < least:
            least = move.cost + rest
    return least


def costs_ahead(step, going, ended):
    """For each state ahead of a place the least cost from there on, NEVER where no reading goes on.

    going is the same for the states behind the place, if no word ends there; ended is the cost behind an end.
    """
    return [least_from(step.moves[state], going, ended) for state in range(step.ahead)]


def least_cost(steps):
    """The least cost of a stretch's readings; NEVER if there are none."""
    # Behind the last place no reading goes on within a word: one has to end there.
    going = [NEVER] * steps[-1].behind
    ended = 0
    for step in reversed(steps):
        going = costs_ahead(step, going, ended)
        ended = going[0]
    return ended
