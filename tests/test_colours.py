"""What colour a pixel has, by parts and by the table, as the rows that are answered tell it."""

import random
import unittest
from fractions import Fraction

from tests.helper import (
    BEGIN, GREYS, agree, answered, byte_by_byte, come, form, greeting, grey, number, numbers, pixels, rectangle, row,
    seen, table, update,
)

GREATEST = (1, 3, 7, 15, 31, 63, 127, 255)


def drawn(values, far_form):
    """Greeting and update by which these pixels are the one row of the screen."""
    rest = pixels(values, far_form)
    return greeting(len(values), 1, far_form) + update(rectangle(0, 0, len(values), 1, 0, rest))


def row_of(values, far_form):
    return seen(1, drawn(values, far_form))[0]


def part_of(value, greatest, shift):
    """The rule of the document by fractions: the nearest of 255, cut."""
    width = len(bin(greatest)) - 2
    part = value // 2 ** shift % 2 ** width
    return int(Fraction(255 * part, greatest) + Fraction(1, 2))


def colour_of(value, greatest, shifts):
    red, green, blue = [part_of(value, *one) for one in zip(greatest, shifts)]
    return red * 65536 + green * 256 + blue


class PartsTest(unittest.TestCase):
    def test_examples(self):
        low = form(16, 0, 1, (31, 63, 31), (11, 5, 0))
        values = [0, 1, 15, 16, 31, 32, 1 << 5 << 5, 63 << 5, 1 << 11, 16 << 11, 31 << 11, 65535]
        found = [0x000000, 0x000008, 0x00007b, 0x000084, 0x0000ff, 0x000400, 0x008200, 0x00ff00, 0x080000, 0x840000,
                 0xff0000, 0xffffff]
        self.assertEqual(row_of(values, low), found)

    def test_each_step_of_the_small_ones(self):
        steps = {1: [0, 255], 3: [0, 85, 170, 255], 7: [0, 36, 73, 109, 146, 182, 219, 255],
                 15: list(range(0, 256, 17)), 255: list(range(256))}
        for greatest, found in steps.items():
            agree(self, row_of(list(range(greatest + 1)), form(32, 0, 1, (1, 1, greatest), (31, 31, 0))), found)

    def test_every_value_of_every_greatest(self):
        for greatest in GREATEST:
            values = list(range(greatest + 1))
            for place, unit in ((0, 65536), (1, 256), (2, 1)):
                parts = [1, 1, 1]
                parts[place] = greatest
                shifts = [31, 31, 31]
                shifts[place] = 0
                found = row_of(values, form(32, 1, 1, parts, shifts))
                agree(self, found, [part_of(value, greatest, 0) * unit for value in values])
                self.assertEqual((found[0], found[-1]), (0, 255 * unit))

    def test_every_place_in_every_size_and_order(self):
        dice = random.Random(5)
        for bits in (8, 16, 32):
            for high_first in (0, 1):
                for width, greatest in enumerate(GREATEST, start=1):
                    for shift in range(bits - width + 1):
                        place = dice.randrange(3)
                        parts, shifts = [1, 3, 1], [0, bits - 2, bits - 1]
                        parts[place], shifts[place] = greatest, shift
                        values = [0, 2 ** bits - 1, greatest << shift, 1 << shift]
                        values += [dice.randrange(2 ** bits) for at in range(3)]
                        found = row_of(values, form(bits, high_first, 1, parts, shifts))
                        self.assertEqual(found, [colour_of(value, parts, shifts) for value in values])

    def test_red_green_and_blue_at_the_top(self):
        for bits in (8, 16, 32):
            for place, unit in ((0, 65536), (1, 256), (2, 1)):
                for width, greatest in enumerate(GREATEST, start=1):
                    parts, shifts = [1, 1, 1], [0, 0, 0]
                    parts[place], shifts[place] = greatest, bits - width
                    others = 0xffffff - 255 * unit
                    values = [2 ** bits - 1, greatest << bits - width & ~1, 0]
                    found = row_of(values, form(bits, 1, 1, parts, shifts))
                    expected = [colour_of(value, parts, shifts) for value in values]
                    self.assertEqual((found, found[0], found[2]), (expected, 0xffffff, 0))
                    if width < bits:
                        self.assertEqual(found[1] & others, 0)

    def test_the_order_of_bytes(self):
        parts, shifts = (255, 255, 255), (16, 8, 0)
        for high_first, words, colour in (
            (0, [1, 2, 3, 4], 0x030201), (1, [1, 2, 3, 4], 0x020304), (255, [1, 2, 3, 4], 0x020304),
        ):
            far = greeting(1, 1, form(32, high_first, 1, parts, shifts)) + update(rectangle(0, 0, 1, 1, 0, words))
            self.assertEqual(seen(1, far), [[colour]])
        for high_first, colour in ((0, 0xff0000), (1, 0x0000ff), (2, 0x0000ff)):
            far_form = form(16, high_first, 1, (255, 1, 255), (0, 0, 8))
            far = greeting(1, 1, far_form) + update(rectangle(0, 0, 1, 1, 0, [255, 0]))
            self.assertEqual(seen(1, far)[0][0] & 0xff00ff, colour)

    def test_parts_that_share_bits(self):
        self.assertEqual(row_of([0, 100, 255], form(8, 0, 1, (255, 255, 255), (0, 0, 0))), [0, 0x646464, 0xffffff])
        self.assertEqual(row_of([0b10110], form(8, 0, 1, (3, 7, 15), (1, 2, 0))), [0xffb666])

    def test_bits_of_no_part_mean_nothing(self):
        far_form = form(32, 0, 1, (255, 255, 255), (16, 8, 0))
        self.assertEqual(row_of([0x12345678, 0xff345678, 0x00345678], far_form), [0x345678] * 3)

    def test_anything_but_nought_means_by_parts(self):
        for by_parts in (1, 2, 255):
            self.assertEqual(row_of([255], form(8, 0, by_parts, (7, 7, 3), (0, 3, 6))), [0xffffff])


class TableTest(unittest.TestCase):
    def test_all_are_0_at_first(self):
        found = row_of(list(range(256)), form(8, 0, 0, (255, 255, 255), (0, 0, 0)))
        agree(self, found, [0] * 256)

    def test_by_256_cut(self):
        colours = [(0, 255, 256), (511, 512, 65535), (65280, 65279, 32768), (258, 772, 1286)]
        found = seen(1, drawn([0, 1, 2, 3], form()) + table(0, colours))
        self.assertEqual(found, [[0x000001, 0x0102ff, 0xfffe80, 0x010305]])

    def test_drawn_before_and_after(self):
        far = drawn([3, 4, 5], form())
        red, blue = (65535, 0, 0), (0, 0, 65535)
        found = answered(BEGIN, come(far), row(0), come(table(4, [red])), row(0),
                         come(update(rectangle(0, 0, 1, 1, 0, [4]))), row(0), come(table(3, [blue] * 3)), row(0))
        self.assertEqual(found[2::2], [[3, 0, 0, 0], [3, 0, 0xff0000, 0], [3, 0xff0000, 0xff0000, 0],
                                       [3, 0x0000ff, 0x0000ff, 0x0000ff]])

    def test_some_colours(self):
        values = list(range(256))
        far = drawn(values, form()) + GREYS
        for first, many in ((0, 1), (0, 2), (7, 3), (254, 2), (255, 1), (1, 255), (0, 256), (0, 0), (9, 0), (256, 0)):
            colours = [(256 * at, 65535 - 256 * at, 256) for at in range(many)]
            found = seen(1, far + table(first, colours))[0]
            expected = [grey(value) for value in values]
            for at in range(many):
                expected[first + at] = at * 65536 + (255 - at) * 256 + 1
            agree(self, found, expected)

    def test_of_which_not_all_is_there_yet(self):
        far = drawn([6, 7, 8], form()) + GREYS
        message = table(6, [(256, 512, 768), (1024, 1280, 1536)])
        before = [grey(6), grey(7), grey(8)]
        for place in range(len(message)):
            self.assertEqual(seen(1, far, message[:place]), [before])
        for pieces in ([message], byte_by_byte(message), [message[:10], message[10:]]):
            self.assertEqual(seen(1, far, *pieces), [[0x010203, 0x040506, grey(8)]])

    def test_a_wrong_one_changes_nothing(self):
        far = drawn([254, 255], form()) + GREYS
        for message in (table(255, [(1, 2, 3)] * 2), table(256, [(1, 2, 3)]), [1, 0] + numbers((257, 0))):
            found = answered(BEGIN, come(far), come(message), row(0))
            self.assertEqual(found[2:], [[-16], [2, grey(254), grey(255)]])

    def test_in_every_coding(self):
        shapes = {0: [9, 9], 2: number(0, 4) + [9], 4: number(0, 4) + [9], 5: [2, 9]}
        for coding, rest in shapes.items():
            far = greeting(2, 1) + update(rectangle(0, 0, 2, 1, coding, rest))
            self.assertEqual(seen(1, far + table(9, [(256, 512, 768)])), [[0x010203] * 2])
            self.assertEqual(seen(1, greeting(2, 1) + table(9, [(256, 512, 768)]) + far[42:]), [[0x010203] * 2])

    def test_pixel_0_has_a_colour_too(self):
        self.assertEqual(seen(2, greeting(2, 2) + table(0, [(256, 512, 768)])), [[0x010203] * 2] * 2)

    def test_the_order_of_bytes_and_the_parts_mean_nothing(self):
        for far_form in (form(8, 1, 0, (7, 7, 3), (0, 3, 6)), form(8, 0, 0, (0, 65535, 2), (255, 9, 8))):
            self.assertEqual(seen(1, drawn([1, 200], far_form) + GREYS), [[grey(1), grey(200)]])


if __name__ == "__main__":
    unittest.main()
