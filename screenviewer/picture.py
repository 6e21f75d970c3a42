"""Pictures: lists of rows of pixels.

A row that a picture shows is never changed, but replaced: so rows may be
shared, within a picture and between two.
"""


def within(left, top, width, height, columns, rows):
    return left + width <= columns and top + height <= rows


def filled(width, height, pixel):
    return [[pixel] * width] * height


def fill(picture, left, top, width, height, pixel):
    paste(picture, left, top, filled(width, height, pixel))


def move(picture, from_left, from_top, left, top, width, height):
    places = list(range(height))
    if from_top < top:
        # From below, so that no row is replaced before it's read.
        places.reverse()
    for place in places:
        row = picture[from_top + place]
        # A whole row is shared, since copying it would take as long as drawing it.
        stripe = row if width == len(row) else row[from_left:from_left + width]
        picture[top + place] = row_with(picture[top + place], left, stripe)


def paste(picture, left, top, piece):
    for place, stripe in enumerate(piece):
        picture[top + place] = row_with(picture[top + place], left, stripe)


def row_with(row, left, stripe):
    if len(stripe) == len(row):
        return stripe
    # Grown in place, since joining by + would copy a long row twice over.
    changed = row[:left]
    changed.extend(stripe)
    changed.extend(row[left + len(stripe):])
    return changed
