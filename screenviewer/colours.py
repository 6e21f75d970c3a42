"""What colours pixels stand for: by their parts, or by the table."""


def colours_of(form, table, pixels):
    if form.by_parts:
        return [colour_by_parts(form, pixel) for pixel in pixels]
    return [colour_by_table(table, pixel) for pixel in pixels]


def colour_by_parts(form, pixel):
    colour = 0
    for greatest, shift in zip(form.greatest, form.shifts):
        part = (pixel >> shift) & greatest
        colour = colour * 256 + (255 * part + greatest // 2) // greatest
    return colour


def colour_by_table(table, pixel):
    colour = 0
    for part in table[pixel]:
        # The table has two bytes a part, a colour one: the higher of the two.
        colour = colour * 256 + part // 256
    return colour
