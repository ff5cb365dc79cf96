"""The calls that ask who it is in the end, and where it turns."""

from selveshelper.chances import chances_behind, turning_places
from selveshelper.checks import refusal_of_self, refusal_of_stand
from selveshelper.fraction import all_lowest_terms
from selveshelper.outlook import all_stands, outlook_with, outlooks_up_to


def answer_after(board, stand, steps):
    """Tell for each stand how likely it stands so in the end."""
    refusal = refusal_of_stand(board, stand, steps, 0)
    if refusal < 0:
        return [refusal]
    chances = chances_behind(board, stand, steps)
    return all_lowest_terms([chances.parts[other] for other in all_stands(board)], chances.scale)


def answer_selves(board, stand, steps):
    """Tell for each self how likely it is that one in the end."""
    refusal = refusal_of_stand(board, stand, steps, 0)
    if refusal < 0:
        return [refusal]
    chances = chances_behind(board, stand, steps)
    likely = [0] * board.selves
    for other, part in chances.parts.items():
        likely[other[1]] += part
    return all_lowest_terms(likely, chances.scale)


def answer_turns(board, who, steps):
    """Tell the places at which a self turns into another one."""
    refusal = refusal_of_self(board, who, steps, 1)
    if refusal < 0:
        return [refusal]
    found = turning_places(board, who, outlook_with(board, steps - 1))
    return [len(found)] + found


def answer_never(board, who, steps):
    """Tell whether a self turns nowhere, with 1 step left and with each number up to the one told."""
    refusal = refusal_of_self(board, who, steps, 0)
    if refusal < 0:
        return [refusal]
    # An outlook with so many steps left says what is done with one more, so the last is not asked.
    for later in outlooks_up_to(board, steps)[:steps]:
        if len(turning_places(board, who, later)) > 0:
            return [0]
    return [1]
