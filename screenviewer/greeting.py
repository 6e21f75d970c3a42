"""What comes first: the twelve bytes, the ways in, the number, the screen's words."""

from screenviewer.form import FORM_SIZE, Form, form_holds
from screenviewer.picture import filled
from screenviewer.session import ALL, COLOURS
from screenviewer.wire import number_at, number_bytes

VERSION = "RFB 003.008\n"
NO_SECRET = 1
LARGEST_SIDE = 1024
LONGEST_NAME = 65536
CODINGS_WISHED = (1, 5, 4, 2, 0)


def take_version(session, words):
    if words != [ord(sign) for sign in VERSION]:
        session.fail(1)
        return
    session.send(words)
    session.expect("how many ways", 1)


def take_how_many_ways(session, words):
    if words[0] == 0:
        session.fail(2)
        return
    session.expect("ways", words[0])


def take_ways(session, words):
    if NO_SECRET not in words:
        session.fail(3)
        return
    session.send([NO_SECRET])
    session.expect("number", 4)


def take_number(session, words):
    if number_at(words, 0, 4) != 0:
        session.fail(4)
        return
    session.send([1])
    session.expect("size", 4)


def take_size(session, words):
    session.far_columns = number_at(words, 0, 2)
    session.far_rows = number_at(words, 2, 2)
    if 1 <= session.far_columns <= LARGEST_SIDE and 1 <= session.far_rows <= LARGEST_SIDE:
        session.expect("form", FORM_SIZE)
    else:
        session.fail(5)


def take_form(session, words):
    session.form = Form(words)
    if form_holds(session.form):
        session.expect("name length", 4)
    else:
        session.fail(5)


def take_name_length(session, words):
    length = number_at(words, 0, 4)
    if length > LONGEST_NAME:
        session.fail(5)
        return
    session.expect("name", length)


def take_name(session, words):
    session.name = words
    session.columns = session.far_columns
    session.rows = session.far_rows
    session.screen = filled(session.columns, session.rows, 0)
    session.table = [(0, 0, 0)] * COLOURS
    session.greeted = True
    session.send(codings_message())
    session.ask_for(ALL)
    session.expect("kind", 1)


def codings_message():
    message = [2, 0] + number_bytes(len(CODINGS_WISHED), 2)
    for coding in CODINGS_WISHED:
        message.extend(number_bytes(coding, 4))
    return message


GREETING_STAGES = {
    "version": take_version,
    "how many ways": take_how_many_ways,
    "ways": take_ways,
    "number": take_number,
    "size": take_size,
    "form": take_form,
    "name length": take_name_length,
    "name": take_name,
}
