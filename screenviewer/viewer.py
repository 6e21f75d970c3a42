"""The calls on a viewer, read from one list of numbers and answered in another."""

from screenviewer.colours import colours_of
from screenviewer.feeding import feed
from screenviewer.session import Session
from screenviewer.wire import number_bytes

BEGIN = 0
BYTES_COME = 1
OUTPUT = 2
KEY = 3
POINT = 4
ROW = 5
CUT = 6
TOLD = 7
# How many numbers each call has behind its own; that of the bytes that come tells it itself.
NUMBERS_BEHIND = {0: 0, 2: 1, 3: 2, 4: 3, 5: 2, 6: 1, 7: 0}
MOST_BYTES = 65536
MOST_COLOURS = 1024
LAST_PLACE = 1023
MOST_BUTTONS = 255
TOO_FEW = -1
NOT_IN_BOUNDS = -2
NOT_READY = -3
NO_SUCH_ROW = -3


def answers(calls):
    session = Session()
    given = []
    at = 0
    while at < len(calls):
        behind = calls[at + 1:call_end(calls, at)]
        if calls[at] == BEGIN:
            session = Session()
        answer = answer_call(session, calls[at], behind)
        given.append(len(answer))
        given.extend(answer)
        at += 1 + len(behind)
    return given


def call_end(calls, at):
    if calls[at] == BYTES_COME:
        return at + 2 + calls[at + 1]
    return at + 1 + NUMBERS_BEHIND[calls[at]]


def answer_call(session, call, behind):
    if call == BYTES_COME:
        return [take_bytes(session, behind[1:])]
    if call == OUTPUT:
        return fetch_output(session, behind[0])
    if call == KEY:
        return [send_key(session, behind[0], behind[1])]
    if call == POINT:
        return [send_point(session, behind[0], behind[1], behind[2])]
    if call == ROW:
        return show_row(session, behind[0], behind[1])
    if call == CUT:
        return show_cut_text(session, behind[0])
    if call == TOLD:
        return tell(session)
    return [0]


def take_bytes(session, data):
    if len(data) > MOST_BYTES:
        return NOT_IN_BOUNDS
    feed(session, data)
    return session.standing()


def fetch_output(session, most):
    if not 0 <= most <= MOST_BYTES:
        return [NOT_IN_BOUNDS]
    return counted(session.fetch(most))


def send_key(session, key, down):
    if down != 0 and down != 1:
        return NOT_IN_BOUNDS
    if session.standing() != 1:
        return NOT_READY
    session.send([4, down, 0, 0] + number_bytes(key, 4))
    return 0


def send_point(session, x, y, buttons):
    if not (0 <= x <= LAST_PLACE and 0 <= y <= LAST_PLACE and 0 <= buttons <= MOST_BUTTONS):
        return NOT_IN_BOUNDS
    if session.standing() != 1:
        return NOT_READY
    session.send([5, buttons] + number_bytes(x, 2) + number_bytes(y, 2))
    return 0


def show_row(session, y, most):
    if not (0 <= y <= LAST_PLACE and 0 <= most <= MOST_COLOURS):
        return [NOT_IN_BOUNDS]
    if y >= session.rows:
        return [NO_SUCH_ROW]
    if most < session.columns:
        return [TOO_FEW]
    return counted(colours_of(session.form, session.table, session.screen[y]))


def show_cut_text(session, most):
    if not 0 <= most <= MOST_BYTES:
        return [NOT_IN_BOUNDS]
    return counted(session.cut_text[:most])


def tell(session):
    sizes = [session.columns, session.rows]
    counts = [session.bells, session.updates]
    return [session.standing()] + sizes + counts + [len(session.cut_text), len(session.name)]


def counted(numbers):
    return [len(numbers)] + numbers
