"""Bytes that come in pieces, cut into words and handed to what awaits them."""

from screenviewer.greeting import GREETING_STAGES
from screenviewer.messages import MESSAGE_STAGES
from screenviewer.rectangles import RECTANGLE_STAGES
from screenviewer.tiles import TILE_STAGES


def feed(session, data):
    if session.wrong != 0:
        return
    pending = session.pending + data
    at = 0
    while session.wrong == 0 and len(pending) - at >= session.need:
        words = pending[at:at + session.need]
        at += session.need
        take_words(session, words)
    session.pending = pending[at:]


def take_words(session, words):
    stage = session.stage
    if stage in GREETING_STAGES:
        GREETING_STAGES[stage](session, words)
    elif stage in MESSAGE_STAGES:
        MESSAGE_STAGES[stage](session, words)
    elif stage in RECTANGLE_STAGES:
        RECTANGLE_STAGES[stage](session, words)
    else:
        TILE_STAGES[stage](session, words)
