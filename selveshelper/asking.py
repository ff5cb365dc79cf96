"""The calls that ask what is done, and what comes of it."""

from selveshelper.board import has_place, has_self
from selveshelper.fraction import lowest_terms
from selveshelper.outlook import all_bests, brought_for_itself, first_best, outlook_with
from selveshelper.refusals import NO_ACTS, NO_SUCH, OUT_OF_RANGE

MOST_STEPS = 4


def refusal_of_stand(board, stand, steps, least_steps):
    """Give the refusal that is due for a stand and its steps, or 0 if none is."""
    if not has_place(board, stand[0]) or not has_self(board, stand[1]):
        return NO_SUCH
    if stand[2] > 1 or not least_steps <= steps <= MOST_STEPS:
        return OUT_OF_RANGE
    return 0


def answer_does(board, stand, steps):
    """Tell the act that is done."""
    refusal = refusal_of_stand(board, stand, steps, 1)
    if refusal < 0:
        return [refusal]
    if len(board.acts[stand[0]]) == 0:
        return [NO_ACTS]
    return [first_best(brought_for_itself(board, stand, outlook_with(board, steps - 1)))]


def answer_bests(board, stand, steps):
    """Tell all acts that are as good as the one that is done."""
    refusal = refusal_of_stand(board, stand, steps, 1)
    if refusal < 0:
        return [refusal]
    bests = all_bests(brought_for_itself(board, stand, outlook_with(board, steps - 1)))
    return [len(bests)] + bests


def answer_worth(board, light, stand, steps):
    """Tell what a stand is worth by the lights of self light."""
    if not has_self(board, light):
        return [NO_SUCH]
    refusal = refusal_of_stand(board, stand, steps, 0)
    if refusal < 0:
        return [refusal]
    outlook = outlook_with(board, steps)
    return [0] + lowest_terms(outlook.worths[stand][light], outlook.scale)
