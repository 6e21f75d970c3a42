"""The calls on a viewer, read from one list of numbers and answered in another."""

from screenviewer.feeding import feed
from screenviewer.session import Session
from screenviewer.wire import number_bytes

BEGIN = 0
BYTES_COME = 1
OUTPUT = 2
KEY = 3
# How many numbers each call has behind its own; that of the bytes that come tells it itself.
NUMBERS_BEHIND = {0: 0, 2: 1, 3: 2}
MOST_BYTES = 65536
NOT_IN_BOUNDS = -2
NOT_READY = -3


def answers(calls):
    session = Session()
    given = []
    at = 0
    while at < len(calls):
        behind = calls[at + 1:call_end(calls, at)]
        if calls[at] == BEGIN:
            session = Session()
        answer = answer_call(session, calls[at], behind)
        given.append(len(answer))
        given.extend(answer)
        at += 1 + len(behind)
    return given


def call_end(calls, at):
    if calls[at] == BYTES_COME:
        return at + 2 + calls[at + 1]
    return at + 1 + NUMBERS_BEHIND[calls[at]]


def answer_call(session, call, behind):
    if call == BYTES_COME:
        return [take_bytes(session, behind[1:])]
    if call == OUTPUT:
        return fetch_output(session, behind[0])
    if call == KEY:
        return [send_key(session, behind[0], behind[1])]
    return [0]


def take_bytes(session, data):
    if len(data) > MOST_BYTES:
        return NOT_IN_BOUNDS
    feed(session, data)
    return session.standing()


def fetch_output(session, most):
    if not 0 <= most <= MOST_BYTES:
        return [NOT_IN_BOUNDS]
    fetched = session.fetch(most)
    return [len(fetched)] + fetched


def send_key(session, key, down):
    if down != 0 and down != 1:
        return NOT_IN_BOUNDS
    if session.standing() != 1:
        return NOT_READY
    session.send([4, down, 0, 0] + number_bytes(key, 4))
    return 0
