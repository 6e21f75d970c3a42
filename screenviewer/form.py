"""The pixels' form: how a pixel stands in bytes, and what its bits mean."""

from screenviewer.wire import number_at

FORM_SIZE = 16
PIXEL_BITS = (8, 16, 32)
TABLE_BITS = 8
GREATEST_OF_A_PART = (1, 3, 7, 15, 31, 63, 127, 255)


class Form:
    def __init__(self, words):
        self.bits = words[0]
        self.size = words[0] // 8
        self.high_first = words[2] != 0
        self.by_parts = words[3] != 0
        self.greatest = (number_at(words, 4, 2), number_at(words, 6, 2), number_at(words, 8, 2))
        self.shifts = (words[10], words[11], words[12])


def form_holds(form):
    if form.bits not in PIXEL_BITS:
        return False
    if form.by_parts:
        return parts_hold(form)
    return form.bits == TABLE_BITS


def parts_hold(form):
    for greatest, shift in zip(form.greatest, form.shifts):
        if greatest not in GREATEST_OF_A_PART:
            return False
        if shift + greatest.bit_length() > form.bits:
            return False
    return True


def pixel_at(form, words, at):
    pixel_bytes = words[at:at + form.size]
    if not form.high_first:
        pixel_bytes = list(reversed(pixel_bytes))
    return number_at(pixel_bytes, 0, form.size)


def pixel_rows(form, words, width, height):
    pixels = [pixel_at(form, words, at) for at in range(0, len(words), form.size)]
    return [pixels[row * width:(row + 1) * width] for row in range(height)]
