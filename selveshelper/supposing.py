"""The calls that ask what would be, were an act another; they try it on a copy, and change nothing."""

from selveshelper.board import copy_of_board, has_act, has_self, has_stand
from selveshelper.changing import are_pays
from selveshelper.checks import are_steps
from selveshelper.fraction import lowest_terms
from selveshelper.outlook import outlook_with
from selveshelper.refusals import NO_SUCH, OUT_OF_RANGE


def own_worth(board, stand, steps):
    """Tell what a stand is worth by the lights of who stands there."""
    outlook = outlook_with(board, steps)
    return [0] + lowest_terms(outlook.worths[stand][stand[1]], outlook.scale)


def answer_ifturn(board, place, number, into, stand, steps):
    """Tell what a stand would be worth for who stands there, did the act turn so."""
    if not has_act(board, place, number) or not has_stand(board, stand):
        return [NO_SUCH]
    if into > board.selves or not are_steps(steps, 0):
        return [OUT_OF_RANGE]
    supposed = copy_of_board(board)
    changed = supposed.acts[place][number]
    changed.into = into
    return own_worth(supposed, stand, steps)


def is_one_pay(row):
    """Tell whether a row is just one pay."""
    return len(row) == 1 and are_pays(row)


def answer_ifpay(board, place, number, light, stand, steps, row):
    """Tell what a stand would be worth for who stands there, were the row the act's pay for self light."""
    if not has_act(board, place, number) or not has_self(board, light) or not has_stand(board, stand):
        return [NO_SUCH]
    if not is_one_pay(row) or not are_steps(steps, 0):
        return [OUT_OF_RANGE]
    supposed = copy_of_board(board)
    changed = supposed.acts[place][number]
    changed.pays[light] = row[0]
    return own_worth(supposed, stand, steps)
