"""The calls that make, change and tell places and acts."""

from selveshelper.board import Act, has_act, has_place
from selveshelper.refusals import NO_SUCH, OUT_OF_RANGE, TOO_MANY_ACTS

MOST_ACTS = 3


def answer_begin(board, places, selves):
    """Make all anew, with so many places and selves, and no acts."""
    if not 2 <= places <= 4 or not 1 <= selves <= 3:
        return [OUT_OF_RANGE]
    board.places = places
    board.selves = selves
    board.acts = [[] for place in range(places)]
    return [0]


def are_pays(pays):
    """Tell whether each may be a pay."""
    return all([-9 <= pay <= 9 for pay in pays])


def are_weights(weights):
    """Tell whether they may be an act's weights."""
    return all([0 <= weight <= 9 for weight in weights]) and sum(weights) > 0


def answer_act(board, place, row):
    """Put one more act behind those at the place."""
    if not has_place(board, place):
        return [NO_SUCH]
    pays = row[:board.selves]
    weights = row[board.selves:]
    if len(row) != board.selves + board.places or not are_pays(pays) or not are_weights(weights):
        return [OUT_OF_RANGE]
    number = len(board.acts[place])
    if number == MOST_ACTS:
        return [TOO_MANY_ACTS]
    board.acts[place].append(Act(pays, weights))
    return [number]


def answer_unact(board, place, number):
    """Take an act out."""
    if not has_act(board, place, number):
        return [NO_SUCH]
    board.acts[place].pop(number)
    return [len(board.acts[place])]


def answer_turn(board, place, number, into):
    """Set into whom an act turns, and tell what it was."""
    if not has_act(board, place, number):
        return [NO_SUCH]
    if into > board.selves:
        return [OUT_OF_RANGE]
    changed = board.acts[place][number]
    before = changed.into
    changed.into = into
    return [before]


def answer_lock(board, place, number, locks):
    """Set whether an act locks, and tell whether it did."""
    if not has_act(board, place, number):
        return [NO_SUCH]
    if locks > 1:
        return [OUT_OF_RANGE]
    changed = board.acts[place][number]
    before = changed.locks
    changed.locks = locks
    return [before]


def answer_actis(board, place, number):
    """Tell all of an act."""
    if not has_act(board, place, number):
        return [NO_SUCH]
    told = board.acts[place][number]
    return [told.into, told.locks] + told.pays + told.weights


def answer_acts(board, place):
    """Tell how many acts there are at the place."""
    if not has_place(board, place):
        return [NO_SUCH]
    return [len(board.acts[place])]
