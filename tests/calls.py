"""Writes calls as the interface wants them, and takes its answers apart."""

from undobranches.editor import answers

MOST = 4294967295
OPEN_GROUP = [3]
CLOSE_GROUP = [4]
UNDO = [5]
REDO = [6]
GET_TEXT = [11]
LEAVES = [13]
ORIGINS = [15]


def start(text=()):
    return [0, len(text), *text]


def wait(ticks):
    return [1, ticks]


def change(position, removed, inserted=()):
    return [2, position, removed, len(inserted), *inserted]


def insert(count):
    """A change that inserts so many bytes at the beginning."""
    return change(0, 0, [7] * count)


def go_to(state):
    return [7, state]


def earlier(n):
    return [8, n]


def later(n):
    return [9, n]


def ago(ticks):
    return [10, ticks]


def state_info(state):
    return [12, state]


def path(from_state, to_state):
    return [14, from_state, to_state]


def revert(state):
    return [16, state]


def set_kept(state, kept):
    return [17, state, kept]


def forget(limit):
    return [18, limit]


def text_of(state):
    return [19, state]


def run(*calls):
    """The answers to these calls in one session, a list for each call."""
    handed_in = [number for call in calls for number in call]
    flat = answers(handed_in)
    answered = []
    place = 0
    while place < len(flat) and flat[place] > 0:
        end = place + 1 + flat[place]
        answered.append(flat[place + 1:end])
        place = end
    # A wrong count is told here, ahead of answers that could only be taken apart wrongly.
    if place != len(flat) or len(answered) != len(calls):
        raise AssertionError(f"{len(calls)} calls, but these answers: {flat}")
    return answered


def run_after(before, *calls):
    """The answers to the calls that follow on those of a list."""
    return run(*before, *calls)[len(before):]
