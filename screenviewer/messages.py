"""What comes again and again: updates, the table, bells, cut texts."""

from screenviewer.session import COLOURS
from screenviewer.updates import next_rectangle
from screenviewer.wire import number_at

LONGEST_CUT_TEXT = 65536
UPDATE = 0
TABLE = 1
BELL = 2
CUT_TEXT = 3


def take_kind(session, words):
    kind = words[0]
    if kind == UPDATE:
        session.expect("update", 3)
    elif kind == TABLE:
        session.expect("table", 5)
    elif kind == BELL:
        session.count_bell()
        session.expect("kind", 1)
    elif kind == CUT_TEXT:
        session.expect("cut length", 7)
    else:
        session.fail(6)


def take_update(session, words):
    session.rectangles_left = number_at(words, 1, 2)
    next_rectangle(session)


def take_table(session, words):
    first = number_at(words, 1, 2)
    many = number_at(words, 3, 2)
    if session.form.by_parts or first + many > COLOURS:
        session.fail(6)
        return
    session.first_colour = first
    session.expect("colours", 6 * many)


def take_colours(session, words):
    for at in range(0, len(words), 6):
        colour = (number_at(words, at, 2), number_at(words, at + 2, 2), number_at(words, at + 4, 2))
        session.table[session.first_colour + at // 6] = colour
    session.expect("kind", 1)


def take_cut_length(session, words):
    length = number_at(words, 3, 4)
    if length > LONGEST_CUT_TEXT:
        session.fail(6)
        return
    session.expect("cut text", length)


def take_cut_text(session, words):
    session.cut_text = words
    session.expect("kind", 1)


MESSAGE_STAGES = {
    "kind": take_kind,
    "update": take_update,
    "table": take_table,
    "colours": take_colours,
    "cut length": take_cut_length,
    "cut text": take_cut_text,
}
