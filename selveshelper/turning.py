"""The calls on one object, and their answers."""

from selveshelper.asking import answer_bests, answer_brings, answer_does, answer_ideal
from selveshelper.asking import answer_lights, answer_short, answer_worth
from selveshelper.board import Board, is_begun
from selveshelper.changing import answer_act, answer_actis, answer_acts, answer_begin
from selveshelper.changing import answer_lock, answer_turn, answer_unact
from selveshelper.foretelling import answer_after, answer_never, answer_selves, answer_turns
from selveshelper.reading import ACT, ACTIS, ACTS, BEGIN, LOCK, TURN, UNACT
from selveshelper.reading import AFTER, BESTS, BRINGS, DOES, IDEAL, LIGHTS, SELVES, SHORT, WORTH
from selveshelper.reading import IFTURN, NEVER, TURNS, split_calls
from selveshelper.refusals import NOT_BEGUN
from selveshelper.supposing import answer_ifpay, answer_ifturn


def answer_about_acts(board, call):
    """Answer a call that changes or tells acts."""
    given = call.given
    if call.number == ACT:
        return answer_act(board, given[0], call.row)
    if call.number == UNACT:
        return answer_unact(board, given[0], given[1])
    if call.number == TURN:
        return answer_turn(board, given[0], given[1], given[2])
    if call.number == LOCK:
        return answer_lock(board, given[0], given[1], given[2])
    if call.number == ACTIS:
        return answer_actis(board, given[0], given[1])
    return answer_acts(board, given[0])


def answer_by_lights(board, call):
    """Answer a call that has by whose lights ahead of where it stands."""
    given = call.given
    if call.number == WORTH:
        return answer_worth(board, given[0], (given[1], given[2], given[3]), given[4])
    if call.number == BRINGS:
        return answer_brings(board, given[0], (given[1], given[2], given[3]), given[4], given[5])
    return answer_ideal(board, given[0], given[1], given[2])


def answer_about_stands(board, call):
    """Answer a call that is handed a stand and its steps."""
    stand = (call.given[0], call.given[1], call.given[2])
    steps = call.given[3]
    if call.number == DOES:
        return answer_does(board, stand, steps)
    if call.number == BESTS:
        return answer_bests(board, stand, steps)
    if call.number == LIGHTS:
        return answer_lights(board, stand, steps)
    if call.number == SHORT:
        return answer_short(board, stand, steps)
    if call.number == AFTER:
        return answer_after(board, stand, steps)
    return answer_selves(board, stand, steps)


def answer_about_turning(board, call):
    """Answer a call that asks where a self turns, or what would be."""
    given = call.given
    if call.number == TURNS:
        return answer_turns(board, given[0], given[1])
    if call.number == NEVER:
        return answer_never(board, given[0], given[1])
    # What would be is asked of one that is not locked.
    stand = (given[3], given[4], 0)
    if call.number == IFTURN:
        return answer_ifturn(board, given[0], given[1], given[2], stand, given[5])
    return answer_ifpay(board, given[0], given[1], given[2], stand, given[5], call.row)


def answer_call(board, call):
    """Answer one call."""
    if call.number == BEGIN:
        return answer_begin(board, call.given[0], call.given[1])
    if not is_begun(board):
        return [NOT_BEGUN]
    if call.number <= ACTS:
        return answer_about_acts(board, call)
    if call.number in (WORTH, BRINGS, IDEAL):
        return answer_by_lights(board, call)
    if call.number <= SELVES:
        return answer_about_stands(board, call)
    return answer_about_turning(board, call)


def answers(calls):
    """Give the answers to all calls, in order, each with how many numbers it has before it."""
    board = Board()
    told = []
    for call in split_calls(calls):
        answer = answer_call(board, call)
        told.append(len(answer))
        told.extend(answer)
    return told
