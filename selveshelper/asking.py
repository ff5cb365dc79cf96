"""The calls that ask what is done, and what that is worth."""

from selveshelper.board import has_act, has_place, has_self
from selveshelper.checks import refusal_of_self, refusal_of_stand
from selveshelper.fraction import all_lowest_terms, lowest_terms
from selveshelper.ideals import ideals_with
from selveshelper.outlook import PARTS, all_bests, brought_by, brought_for_itself, first_best, outlook_with
from selveshelper.refusals import NO_ACTS, NO_SUCH


def answer_does(board, stand, steps):
    """Tell the act that is done."""
    refusal = refusal_of_stand(board, stand, steps, 1)
    if refusal < 0:
        return [refusal]
    if len(board.acts[stand[0]]) == 0:
        return [NO_ACTS]
    return [first_best(brought_for_itself(board, stand, outlook_with(board, steps - 1)))]


def answer_bests(board, stand, steps):
    """Tell all acts that are as good as the one that is done."""
    refusal = refusal_of_stand(board, stand, steps, 1)
    if refusal < 0:
        return [refusal]
    bests = all_bests(brought_for_itself(board, stand, outlook_with(board, steps - 1)))
    return [len(bests)] + bests


def answer_worth(board, light, stand, steps):
    """Tell what a stand is worth by the lights of self light."""
    if not has_self(board, light):
        return [NO_SUCH]
    refusal = refusal_of_stand(board, stand, steps, 0)
    if refusal < 0:
        return [refusal]
    outlook = outlook_with(board, steps)
    return [0] + lowest_terms(outlook.worths[stand][light], outlook.scale)


def answer_brings(board, light, stand, number, steps):
    """Tell what an act brings at a stand by the lights of self light."""
    if not has_self(board, light) or not has_act(board, stand[0], number):
        return [NO_SUCH]
    refusal = refusal_of_stand(board, stand, steps, 1)
    if refusal < 0:
        return [refusal]
    later = outlook_with(board, steps - 1)
    brought = brought_by(board.acts[stand[0]][number], stand, light, later)
    return [0] + lowest_terms(brought, PARTS * later.scale)


def answer_lights(board, stand, steps):
    """Tell what a stand is worth by each self's lights."""
    refusal = refusal_of_stand(board, stand, steps, 0)
    if refusal < 0:
        return [refusal]
    outlook = outlook_with(board, steps)
    return all_lowest_terms(outlook.worths[stand], outlook.scale)


def answer_ideal(board, light, place, steps):
    """Tell what a place is ideally worth by the lights of self light."""
    if not has_place(board, place):
        return [NO_SUCH]
    refusal = refusal_of_self(board, light, steps, 0)
    if refusal < 0:
        return [refusal]
    ideals = ideals_with(board, light, steps)
    return [0] + lowest_terms(ideals.amounts[place], ideals.scale)


def answer_short(board, stand, steps):
    """Tell by how much a stand is worth less than the ideal, by the lights of who stands there."""
    refusal = refusal_of_stand(board, stand, steps, 0)
    if refusal < 0:
        return [refusal]
    outlook = outlook_with(board, steps)
    ideals = ideals_with(board, stand[1], steps)
    # With as many steps both are counted in parts that are as fine, so they can be taken from one another.
    return [0] + lowest_terms(ideals.amounts[stand[0]] - outlook.worths[stand][stand[1]], outlook.scale)
