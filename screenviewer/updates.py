"""An update: its rectangles one after another, and what is due behind the last."""

from screenviewer.picture import paste
from screenviewer.session import CHANGED
from screenviewer.wire import number_at

RECTANGLE_SIZE = 12


class Rectangle:
    def __init__(self, words):
        self.left = number_at(words, 0, 2)
        self.top = number_at(words, 2, 2)
        self.width = number_at(words, 4, 2)
        self.height = number_at(words, 6, 2)
        self.coding = number_at(words, 8, 4)
        # It's drawn here and not on the screen, which stays as it was until the whole rectangle is there.
        self.picture = []
        self.parts_left = 0
        self.back = 0
        self.front = 0
        self.tile = None


def next_rectangle(session):
    if session.rectangles_left > 0:
        session.expect("rectangle", RECTANGLE_SIZE)
        return
    session.count_update()
    session.ask_for(CHANGED)
    session.expect("kind", 1)


def finish_rectangle(session, picture):
    rectangle = session.rectangle
    paste(session.screen, rectangle.left, rectangle.top, picture)
    leave_rectangle(session)


def leave_rectangle(session):
    session.rectangles_left -= 1
    next_rectangle(session)
