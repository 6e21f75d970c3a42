"""The coding 5: tiles of 16 by 16 from the rectangle's corner."""

from screenviewer.form import pixel_at, pixel_rows
from screenviewer.picture import fill, filled, within
from screenviewer.updates import finish_rectangle

TILE_SIDE = 16
HAS_PIXELS = 1
HAS_BACK = 2
HAS_FRONT = 4
HAS_PARTS = 8
HAS_PART_PIXELS = 16


class Tile:
    def __init__(self, rectangle, left, top):
        self.left = left
        self.top = top
        self.width = min(TILE_SIDE, rectangle.width - left)
        self.height = min(TILE_SIDE, rectangle.height - top)
        self.bits_set = 0
        self.picture = []
        self.parts_left = 0


def begin_tiles(session):
    rectangle = session.rectangle
    # Rows of their own, unlike those of other pictures: tiles are added to them.
    rectangle.picture = [[] for row in range(rectangle.height)]
    next_tile(session, 0, 0)


def next_tile(session, left, top):
    rectangle = session.rectangle
    if rectangle.width == 0 or top >= rectangle.height:
        finish_rectangle(session, rectangle.picture)
        return
    rectangle.tile = Tile(rectangle, left, top)
    session.expect("tile", 1)


def finish_tile(session, picture):
    rectangle = session.rectangle
    tile = rectangle.tile
    # Tiles come from left to right, so each one goes on where the rows have ended so far.
    for place in range(tile.height):
        rectangle.picture[tile.top + place].extend(picture[place])
    left = tile.left + TILE_SIDE
    if left < rectangle.width:
        next_tile(session, left, tile.top)
    else:
        next_tile(session, 0, tile.top + TILE_SIDE)


def take_tile(session, words):
    tile = session.rectangle.tile
    size = session.form.size
    tile.bits_set = words[0]
    if tile.bits_set & HAS_PIXELS:
        session.expect("tile pixels", tile.width * tile.height * size)
        return
    need = 0
    if tile.bits_set & HAS_BACK:
        need += size
    if tile.bits_set & HAS_FRONT:
        need += size
    if tile.bits_set & HAS_PARTS:
        need += 1
    session.expect("tile colours", need)


def take_tile_pixels(session, words):
    tile = session.rectangle.tile
    finish_tile(session, pixel_rows(session.form, words, tile.width, tile.height))


def take_tile_colours(session, words):
    rectangle = session.rectangle
    tile = rectangle.tile
    at = 0
    if tile.bits_set & HAS_BACK:
        rectangle.back = pixel_at(session.form, words, at)
        at += session.form.size
    if tile.bits_set & HAS_FRONT:
        rectangle.front = pixel_at(session.form, words, at)
        at += session.form.size
    if tile.bits_set & HAS_PARTS:
        tile.parts_left = words[at]
    tile.picture = filled(tile.width, tile.height, rectangle.back)
    next_tile_part(session)


def next_tile_part(session):
    tile = session.rectangle.tile
    if tile.parts_left == 0:
        finish_tile(session, tile.picture)
    elif tile.bits_set & HAS_PART_PIXELS:
        session.expect("tile part", session.form.size + 2)
    else:
        session.expect("tile part", 2)


def take_tile_part(session, words):
    rectangle = session.rectangle
    tile = rectangle.tile
    place = words[len(words) - 2]
    extent = words[len(words) - 1]
    left = place >> 4
    top = place & 15
    width = (extent >> 4) + 1
    height = (extent & 15) + 1
    if not within(left, top, width, height, tile.width, tile.height):
        session.fail(7)
        return
    pixel = rectangle.front
    if tile.bits_set & HAS_PART_PIXELS:
        pixel = pixel_at(session.form, words, 0)
    fill(tile.picture, left, top, width, height, pixel)
    tile.parts_left -= 1
    next_tile_part(session)


TILE_STAGES = {
    "tile": take_tile,
    "tile pixels": take_tile_pixels,
    "tile colours": take_tile_colours,
    "tile part": take_tile_part,
}
