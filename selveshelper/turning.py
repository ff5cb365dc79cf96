"""The calls on one object, and their answers."""

from selveshelper.asking import answer_bests, answer_does, answer_worth
from selveshelper.board import Board, is_begun
from selveshelper.changing import answer_act, answer_actis, answer_acts, answer_begin
from selveshelper.changing import answer_lock, answer_turn, answer_unact
from selveshelper.reading import ACT, ACTIS, ACTS, BEGIN, BESTS, DOES, LOCK, TURN, UNACT, WORTH, split_calls
from selveshelper.refusals import NOT_BEGUN


def answer_about_acts(board, call):
    """Answer a call that changes or tells acts."""
    given = call.given
    if call.number == ACT:
        return answer_act(board, given[0], call.row)
    if call.number == UNACT:
        return answer_unact(board, given[0], given[1])
    if call.number == TURN:
        return answer_turn(board, given[0], given[1], given[2])
    if call.number == LOCK:
        return answer_lock(board, given[0], given[1], given[2])
    if call.number == ACTIS:
        return answer_actis(board, given[0], given[1])
    return answer_acts(board, given[0])


def answer_about_stands(board, call):
    """Answer a call that asks what is done, or what comes of it."""
    given = call.given
    if call.number == DOES:
        return answer_does(board, (given[0], given[1], given[2]), given[3])
    if call.number == BESTS:
        return answer_bests(board, (given[0], given[1], given[2]), given[3])
    if call.number == WORTH:
        return answer_worth(board, given[0], (given[1], given[2], given[3]), given[4])
    number = call.number
    raise NotImplementedError(f"call {number} is not written yet")


def answer_call(board, call):
    """Answer one call."""
    if call.number == BEGIN:
        return answer_begin(board, call.given[0], call.given[1])
    if not is_begun(board):
        return [NOT_BEGUN]
    if call.number <= ACTS:
        return answer_about_acts(board, call)
    return answer_about_stands(board, call)


def answers(calls):
    """Give the answers to all calls, in order, each with how many numbers it has before it."""
    board = Board()
    told = []
    for call in split_calls(calls):
        answer = answer_call(board, call)
        told.append(len(answer))
        told.extend(answer)
    return told
