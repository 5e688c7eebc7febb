"""The interface: a session handed in as one list of calls, answered as one list."""

from undobranches.refusals import Refusal
from undobranches.session import Session

START = 0
WAIT = 1
CHANGE = 2
OPEN_GROUP = 3
CLOSE_GROUP = 4
UNDO = 5
REDO = 6
GO_TO = 7
EARLIER = 8
LATER = 9
AGO = 10
GET_TEXT = 11
STATE_INFO = 12
LEAVES = 13
PATH = 14
ORIGINS = 15
REVERT = 16
SET_KEPT = 17
FORGET = 18
TEXT_OF = 19

# By the number of the call: how many whole numbers stand ahead of its row, if it has one.
PLAIN_NUMBERS = (0, 1, 2, 0, 0, 0, 0, 1, 1, 1, 1, 0, 1, 0, 2, 0, 1, 2, 1, 1)


def read_call(calls, place):
    """The call that begins at a place: its number, its whole numbers, its row, and the place behind it."""
    call = calls[place]
    end = place + 1 + PLAIN_NUMBERS[call]
    plain = calls[place + 1:end]
    row = []
    if call == START or call == CHANGE:
        row_start = end + 1
        end = row_start + calls[end]
        row = calls[row_start:end]
    return call, plain, row, end


def go(session, call, plain):
    """Does one of the calls that make another state the current one."""
    if call == UNDO:
        return session.undo()
    if call == REDO:
        return session.redo()
    if call == GO_TO:
        return session.go_to(plain[0])
    if call == EARLIER:
        return session.earlier(plain[0])
    if call == LATER:
        return session.later(plain[0])
    return session.ago(plain[0])


def tell(session, call, plain):
    """Does one of the calls that change nothing."""
    if call == GET_TEXT:
        return session.get_text()
    if call == STATE_INFO:
        return session.state_info(plain[0])
    if call == LEAVES:
        return session.leaves()
    if call == PATH:
        return session.path(plain[0], plain[1])
    if call == ORIGINS:
        return session.origins()
    return session.text_of(plain[0])


def carry_out(session, call, plain, row):
    """Does one call and gives back its results."""
    if call == START:
        return session.start(row)
    if call == WAIT:
        return session.wait(plain[0])
    if call == CHANGE:
        return session.change(plain[0], plain[1], row)
    if call == OPEN_GROUP:
        return session.open_group()
    if call == CLOSE_GROUP:
        return session.close_group()
    if call == REVERT:
        return session.revert(plain[0])
    if call == SET_KEPT:
        return session.set_kept(plain[0], plain[1])
    if call == FORGET:
        return session.forget(plain[0])
    if call <= AGO:
        return go(session, call, plain)
    return tell(session, call, plain)


def answer_to(session, call, plain, row):
    """The results of one call, or the code of its refusal alone."""
    try:
        return carry_out(session, call, plain, row)
    except Refusal as refusal:
        return [refusal.code]


def answers(calls):
    """The answers to all calls of a new session, each with its length ahead of it."""
    session = Session()
    answered = []
    place = 0
    while place < len(calls):
        call, plain, row, place = read_call(calls, place)
        answer = answer_to(session, call, plain, row)
        answered.append(len(answer))
        answered.extend(answer)
    return answered
