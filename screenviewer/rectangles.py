"""A rectangle's own words, and the codings 0, 1, 2 and 4."""

from screenviewer.form import pixel_at, pixel_rows
from screenviewer.picture import fill, filled, move, within
from screenviewer.tiles import begin_tiles
from screenviewer.updates import Rectangle, finish_rectangle, leave_rectangle
from screenviewer.wire import number_at

PLAIN = 0
COPIED = 1
PARTS = 2
SMALL_PARTS = 4
TILES = 5
MOST_PARTS = 65535


def take_rectangle(session, words):
    rectangle = Rectangle(words)
    session.rectangle = rectangle
    if not on_screen(session, rectangle.left, rectangle.top):
        session.fail(7)
    elif rectangle.coding == PLAIN:
        session.expect("pixels", rectangle.width * rectangle.height * session.form.size)
    elif rectangle.coding == COPIED:
        session.expect("source", 4)
    elif rectangle.coding == PARTS or rectangle.coding == SMALL_PARTS:
        session.expect("how many parts", 4)
    elif rectangle.coding == TILES:
        begin_tiles(session)
    else:
        session.fail(7)


def on_screen(session, left, top):
    rectangle = session.rectangle
    return within(left, top, rectangle.width, rectangle.height, session.columns, session.rows)


def take_pixels(session, words):
    rectangle = session.rectangle
    finish_rectangle(session, pixel_rows(session.form, words, rectangle.width, rectangle.height))


def take_source(session, words):
    rectangle = session.rectangle
    left = number_at(words, 0, 2)
    top = number_at(words, 2, 2)
    if not on_screen(session, left, top):
        session.fail(7)
        return
    move(session.screen, left, top, rectangle.left, rectangle.top, rectangle.width, rectangle.height)
    leave_rectangle(session)


def take_how_many_parts(session, words):
    rectangle = session.rectangle
    rectangle.parts_left = number_at(words, 0, 4)
    if rectangle.parts_left > MOST_PARTS:
        session.fail(7)
        return
    session.expect("ground", session.form.size)


def take_ground(session, words):
    rectangle = session.rectangle
    rectangle.picture = filled(rectangle.width, rectangle.height, pixel_at(session.form, words, 0))
    next_part(session)


def next_part(session):
    rectangle = session.rectangle
    if rectangle.parts_left == 0:
        finish_rectangle(session, rectangle.picture)
        return
    session.expect("part", session.form.size + 4 * place_size(rectangle))


def place_size(rectangle):
    return 1 if rectangle.coding == SMALL_PARTS else 2


def take_part(session, words):
    rectangle = session.rectangle
    size = place_size(rectangle)
    ahead = session.form.size
    left = number_at(words, ahead, size)
    top = number_at(words, ahead + size, size)
    width = number_at(words, ahead + 2 * size, size)
    height = number_at(words, ahead + 3 * size, size)
    if not within(left, top, width, height, rectangle.width, rectangle.height):
        session.fail(7)
        return
    fill(rectangle.picture, left, top, width, height, pixel_at(session.form, words, 0))
    rectangle.parts_left -= 1
    next_part(session)


RECTANGLE_STAGES = {
    "rectangle": take_rectangle,
    "pixels": take_pixels,
    "source": take_source,
    "how many parts": take_how_many_parts,
    "ground": take_ground,
    "part": take_part,
}
