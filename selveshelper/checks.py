"""The refusals that are due alike for several calls; 0 stands for none."""

from selveshelper.board import has_self, has_stand
from selveshelper.refusals import NO_SUCH, OUT_OF_RANGE

MOST_STEPS = 4


def are_steps(steps, least_steps):
    """Tell whether there may be so many steps left."""
    return least_steps <= steps <= MOST_STEPS


def refusal_of_stand(board, stand, steps, least_steps):
    """Give the refusal that is due for a stand and its steps."""
    if not has_stand(board, stand):
        return NO_SUCH
    if stand[2] > 1 or not are_steps(steps, least_steps):
        return OUT_OF_RANGE
    return 0


def refusal_of_self(board, who, steps, least_steps):
    """Give the refusal that is due for a self and its steps."""
    if not has_self(board, who):
        return NO_SUCH
    if not are_steps(steps, least_steps):
        return OUT_OF_RANGE
    return 0
