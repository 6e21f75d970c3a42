"""The screen by each coding, as the rows that are answered tell it."""

import unittest

from tests.helper import (
    BEGIN, FORMS, GREYS, PARTS_16_HIGH, PARTS_32_LOW, TOLD, agree, answered, come, greeting, grey, number, numbers,
    pixel, pixels, rectangle, row, seen, seen_pixels, update,
)

COLUMNS, ROWS = 5, 4
FIRST = [[10 * y + x + 100 for x in range(COLUMNS)] for y in range(ROWS)]
SHOWN = greeting(COLUMNS, ROWS) + GREYS
SHOWN += update(rectangle(0, 0, COLUMNS, ROWS, 0, [value for line in FIRST for value in line]))
PLACES = [(left, top, width, height) for left in range(COLUMNS + 1) for top in range(ROWS + 1)
          for width in range(COLUMNS + 1 - left) for height in range(ROWS + 1 - top)]


def painted(picture, left, top, piece):
    found = [list(line) for line in picture]
    for y, line in enumerate(piece):
        for x, value in enumerate(line):
            found[top + y][left + x] = value
    return found


def block(width, height, value):
    return [[value] * width for y in range(height)]


def after(*rectangles):
    return seen_pixels(ROWS, SHOWN + update(*rectangles))


class EveryPlaceTest(unittest.TestCase):
    """Every rectangle that lies within the screen: at its corner, at its far edges, of no columns or no rows."""

    def test_pixels(self):
        for left, top, width, height in PLACES:
            piece = [[width * y + x + 1 for x in range(width)] for y in range(height)]
            rest = [value for line in piece for value in line]
            self.assertEqual(after(rectangle(left, top, width, height, 0, rest)), painted(FIRST, left, top, piece))

    def test_filled(self):
        for coding in (2, 4):
            for left, top, width, height in PLACES:
                found = after(rectangle(left, top, width, height, coding, number(0, 4) + [7]))
                self.assertEqual(found, painted(FIRST, left, top, block(width, height, 7)))

    def test_tiles(self):
        for left, top, width, height in PLACES:
            rest = [2, 7] if width and height else []
            found = after(rectangle(left, top, width, height, 5, rest))
            self.assertEqual(found, painted(FIRST, left, top, block(width, height, 7)))
            piece = [[width * y + x + 1 for x in range(width)] for y in range(height)]
            rest = [1] + [value for line in piece for value in line] if width and height else []
            self.assertEqual(after(rectangle(left, top, width, height, 5, rest)), painted(FIRST, left, top, piece))

    def test_one_beyond_the_edges(self):
        for coding in (0, 1, 2, 4, 5):
            for left, top, width, height in ((1, 0, 5, 4), (0, 1, 5, 4), (5, 0, 1, 1), (0, 4, 1, 1), (0, 0, 6, 1),
                                             (0, 0, 1, 5), (6, 0, 0, 0), (0, 5, 0, 0), (65535, 0, 1, 1)):
                far = update(rectangle(left, top, width, height, coding, [0] * 30))
                found = answered(BEGIN, come(SHOWN), come(far), *[row(y) for y in range(ROWS)])
                self.assertEqual(found[2], [-17])
                self.assertEqual(found[3:], [[COLUMNS] + [grey(value) for value in line] for line in FIRST])

    def test_corners_of_the_largest_screen(self):
        for left, top in ((0, 0), (1023, 0), (0, 1023), (1023, 1023)):
            for coding, rest in ((0, [9]), (2, number(0, 4) + [9]), (4, number(0, 4) + [9]), (5, [2, 9])):
                far = greeting(1024, 1024) + GREYS + update(rectangle(left, top, 1, 1, coding, rest))
                found = answered(BEGIN, come(far), row(0), row(1), row(1022), row(1023))
                line = [1024] + [0] * 1024
                line[1 + left] = grey(9)
                blank = [1024] + [0] * 1024
                agree(self, found[2:], [blank if top else line, blank, blank, line if top else blank])


class CopyTest(unittest.TestCase):
    def test_every_copy_from_everywhere(self):
        sizes = [(1, 1), (2, 1), (1, 2), (3, 2), (2, 3), (4, 3), (5, 1), (5, 3), (1, 4), (4, 4), (5, 4), (0, 2), (2, 0)]
        for width, height in sizes:
            for left in range(COLUMNS - width + 1):
                for top in range(ROWS - height + 1):
                    for from_left in range(COLUMNS - width + 1):
                        for from_top in range(ROWS - height + 1):
                            lines = FIRST[from_top:from_top + height]
                            piece = [line[from_left:from_left + width] for line in lines]
                            found = after(rectangle(left, top, width, height, 1, numbers((from_left, from_top))))
                            self.assertEqual(found, painted(FIRST, left, top, piece))

    def test_overlapping_in_each_direction(self):
        for across in (-1, 0, 1):
            for down in (-1, 0, 1):
                found = after(rectangle(1 + across, 1 + down, 3, 2, 1, numbers((1, 1))))
                piece = [[111, 112, 113], [121, 122, 123]]
                self.assertEqual(found, painted(FIRST, 1 + across, 1 + down, piece))

    def test_a_copy_of_what_this_update_drew(self):
        found = after(rectangle(0, 0, 2, 1, 0, [1, 2]), rectangle(1, 0, 2, 1, 1, numbers((0, 0))),
                      rectangle(3, 3, 2, 1, 1, numbers((1, 0))))
        self.assertEqual(found, [[1, 1, 2, 103, 104]] + FIRST[1:3] + [[130, 131, 132, 1, 2]])

    def test_whole_rows_go_their_own_ways_afterwards(self):
        copied = rectangle(0, 1, COLUMNS, 3, 1, numbers((0, 0)))
        found = after(copied, rectangle(2, 0, 1, 1, 0, [7]), rectangle(0, 3, 1, 1, 0, [8]))
        self.assertEqual(found, [[100, 101, 7, 103, 104], FIRST[0], FIRST[1], [8] + FIRST[2][1:]])

    def test_from_beyond_the_edges(self):
        cases = ((2, 2, 4, 0), (2, 2, 0, 3), (5, 4, 1, 0), (0, 0, 6, 0), (0, 0, 0, 5))
        for width, height, from_left, from_top in cases:
            far = update(rectangle(0, 0, width, height, 1, numbers((from_left, from_top))))
            found = answered(BEGIN, come(SHOWN), come(far), row(0), row(3))
            self.assertEqual(found[2], [-17])
            self.assertEqual([one[1:] for one in found[3:]], [[grey(value) for value in FIRST[y]] for y in (0, 3)])

    def test_in_every_form(self):
        for far_form in FORMS[1:]:
            size = far_form[0] // 8
            words = list(range(1, 1 + 3 * size))
            far = greeting(6, 1, far_form) + update(rectangle(0, 0, 3, 1, 0, words))
            before = seen(1, far)[0]
            found = seen(1, far + update(rectangle(2, 0, 3, 1, 1, numbers((0, 0)))))
            self.assertEqual(found, [before[:2] + before[:3] + [0]])


class PartsTest(unittest.TestCase):
    def check(self, ground, parts):
        expected = block(4, 3, ground)
        rests = {2: number(len(parts), 4) + [ground], 4: number(len(parts), 4) + [ground]}
        for value, left, top, width, height in parts:
            expected = painted(expected, left, top, block(width, height, value))
            rests[2] += [value] + numbers((left, top, width, height))
            rests[4] += [value, left, top, width, height]
        for coding, rest in rests.items():
            self.assertEqual(after(rectangle(1, 1, 4, 3, coding, rest)), painted(FIRST, 1, 1, expected))

    def test_one_part_at_every_place(self):
        for left in range(5):
            for top in range(4):
                for width in range(5 - left):
                    for height in range(4 - top):
                        self.check(1, [(2, left, top, width, height)])

    def test_parts_over_one_another(self):
        self.check(1, [(2, 0, 0, 3, 2), (3, 1, 1, 3, 2), (4, 2, 0, 1, 3)])
        self.check(1, [(4, 2, 0, 1, 3), (3, 1, 1, 3, 2), (2, 0, 0, 3, 2)])
        self.check(1, [(2, 0, 0, 4, 3), (3, 0, 0, 4, 3), (1, 1, 1, 2, 1)])
        self.check(0, [(9, 0, 0, 4, 3), (0, 3, 2, 1, 1)])

    def test_places_are_within_the_rectangle_not_the_screen(self):
        for coding, size in ((2, 2), (4, 1)):
            for place in ((4, 0, 1, 1), (0, 3, 1, 1), (0, 0, 5, 1), (0, 0, 1, 4), (5, 0, 0, 0), (0, 4, 0, 0)):
                rest = number(1, 4) + [50, 51] + numbers(place, size)
                found = answered(BEGIN, come(SHOWN), come(update(rectangle(0, 0, 4, 3, coding, rest))), row(0))
                self.assertEqual(found[2:], [[-17], [COLUMNS] + [grey(value) for value in FIRST[0]]])

    def test_larger_pixels(self):
        for far_form in (PARTS_16_HIGH, PARTS_32_LOW):
            for coding, size in ((2, 2), (4, 1)):
                rest = number(1, 4) + pixel(31, far_form) + pixel(1, far_form) + numbers((1, 0, 1, 1), size)
                far = greeting(3, 1, far_form) + update(rectangle(0, 0, 3, 1, coding, rest))
                shown = {16: [255, 8, 255], 32: [31, 1, 31]}[far_form[0]]
                self.assertEqual(seen(1, far), [shown])


def tiled(columns, rows, rest):
    far = greeting(columns + 2, rows + 1) + GREYS + update(rectangle(1, 0, columns, rows, 5, rest))
    found = answered(BEGIN, come(far), TOLD, *[row(y) for y in range(rows + 1)])
    assert found[2][:5] == [1, columns + 2, rows + 1, 0, 1], found[2]
    lines = [[colour // 65793 for colour in one[1:]] for one in found[3:]]
    assert lines.pop() == [0] * (columns + 2) and all(line[0] == line[-1] == 0 for line in lines)
    return [line[1:-1] for line in lines]


class TilesTest(unittest.TestCase):
    def test_cut_at_the_right_and_at_the_bottom(self):
        for columns in (1, 15, 16, 17, 32, 35):
            for rows in (1, 15, 16, 17, 33):
                wide, high = (columns + 15) // 16, (rows + 15) // 16
                expected = [[1 + x // 16 + y // 16 * wide for x in range(columns)] for y in range(rows)]
                rest = [byte for at in range(wide * high) for byte in (2, at + 1)]
                self.assertEqual(tiled(columns, rows, rest), expected)
                rest = []
                for top in range(0, rows, 16):
                    for left in range(0, columns, 16):
                        many = min(16, columns - left) * min(16, rows - top)
                        rest += [1] + [1 + left // 16 + top // 16 * wide] * many
                self.assertEqual(tiled(columns, rows, rest), expected)

    def test_pixels_row_by_row(self):
        self.assertEqual(tiled(3, 2, [1, 1, 2, 3, 4, 5, 6]), [[1, 2, 3], [4, 5, 6]])
        rest = [0] + [1, 1, 2, 3, 4, 5, 6]
        self.assertEqual(tiled(19, 2, rest), [[0] * 16 + [1, 2, 3], [0] * 16 + [4, 5, 6]])

    def test_back_and_front_are_0_at_first(self):
        self.assertEqual(tiled(3, 1, [0]), [[0, 0, 0]])
        self.assertEqual(tiled(3, 1, [10, 9, 1, 0x10, 0x00]), [[9, 0, 9]])
        self.assertEqual(tiled(3, 1, [12, 9, 1, 0x10, 0x00]), [[0, 9, 0]])

    def test_back_and_front_hold_over(self):
        rest = [6, 8, 9] + [8, 1, 0x00, 0x00] + [2, 7] + [12, 6, 1, 0x00, 0x00] + [8, 1, 0x10, 0x00]
        self.assertEqual(tiled(66, 1, rest), [[8] * 16 + [9] + [8] * 15 + [7] * 16 + [6] + [7] * 15 + [7, 6]])

    def test_they_hold_over_to_the_next_row_of_tiles(self):
        found = tiled(17, 17, [6, 8, 9, 0, 0, 8, 1, 0x00, 0x00])
        self.assertEqual(found, [[8] * 17] * 16 + [[8] * 16 + [9]])

    def test_they_hold_over_a_tile_of_pixels(self):
        for bits in (1, 7, 31, 255):
            rest = [6, 8, 9] + [bits] + [7] * 16 + [8, 1, 0x00, 0x00]
            self.assertEqual(tiled(34, 1, rest), [[8] * 16 + [7] * 16 + [9, 8]])

    def test_not_from_an_earlier_rectangle(self):
        far = greeting(6, 1) + GREYS + update(
            rectangle(0, 0, 2, 1, 5, [6, 8, 9]), rectangle(2, 0, 2, 1, 5, [10, 7, 1, 0, 0]),
            rectangle(4, 0, 2, 1, 5, [12, 5, 1, 0, 0]))
        self.assertEqual(seen_pixels(1, far), [[8, 8, 0, 7, 5, 0]])
        far = greeting(2, 1) + GREYS + update(rectangle(0, 0, 2, 1, 5, [6, 8, 9]))
        far += update(rectangle(0, 0, 2, 1, 5, [0]))
        self.assertEqual(seen_pixels(1, far), [[0, 0]])

    def test_parts_with_the_front_and_with_pixels_of_their_own(self):
        self.assertEqual(tiled(4, 3, [14, 1, 2, 2, 0x00, 0x10, 0x21, 0x11]), [[2, 2, 1, 1], [1, 1, 2, 2], [1, 1, 2, 2]])
        found = tiled(4, 3, [26, 1, 2, 5, 0x00, 0x21, 6, 0x11, 0x11])
        self.assertEqual(found, [[5, 5, 5, 1], [5, 6, 6, 1], [1, 6, 6, 1]])
        # Pixels of its own don't change the front.
        rest = [30, 1, 2, 1, 5, 0x00, 0x00] + [8, 1, 0x00, 0x00]
        self.assertEqual(tiled(17, 1, rest), [[5] + [1] * 15 + [2]])

    def test_parts_over_one_another_and_the_whole_tile(self):
        self.assertEqual(tiled(3, 1, [26, 1, 3, 5, 0x00, 0x20, 6, 0x10, 0x10, 7, 0x20, 0x00]), [[5, 6, 7]])
        self.assertEqual(tiled(16, 16, [14, 1, 2, 1, 0x00, 0xff]), block(16, 16, 2))
        self.assertEqual(tiled(16, 16, [14, 1, 2, 1, 0xff, 0x00]), block(16, 15, 1) + [[1] * 15 + [2]])

    def test_bit_4_without_bit_3_means_nothing(self):
        self.assertEqual(tiled(2, 1, [18, 9]), [[9, 9]])

    def test_a_part_beyond_its_tile(self):
        for part in ([0xf0, 0x10], [0x0f, 0x01], [0x00, 0xff]):
            far = greeting(32, 15) + GREYS + update(rectangle(0, 0, 32, 15, 5, [14, 8, 9, 1] + part))
            found = answered(BEGIN, come(far), row(0), row(14))
            self.assertEqual(found[1:], [[-17], [32] + [0] * 32, [32] + [0] * 32])

    def test_larger_pixels(self):
        for far_form in FORMS[2:]:
            rest = [14] + pixel(0, far_form) + pixel(31, far_form) + [1, 0x10, 0x00]
            rest += [24, 1] + pixel(1, far_form) + [0x00, 0x00] + [1] + pixels([31, 1], far_form)
            blue, one = {16: (255, 8), 32: (31, 1)}[far_form[0]]
            far = greeting(34, 1, far_form) + update(rectangle(0, 0, 34, 1, 5, rest))
            self.assertEqual(seen(1, far), [[0, blue] + [0] * 14 + [one] + [0] * 15 + [blue, one]])


WHOLE = {
    0: list(range(1, 21)),
    1: numbers((0, 0)),
    2: number(2, 4) + [50, 51] + numbers((0, 0, 1, 1)) + [52] + numbers((4, 3, 1, 1)),
    4: number(2, 4) + [50, 51, 0, 0, 1, 1, 52, 4, 3, 1, 1],
    5: [30, 50, 51, 2, 52, 0x00, 0x00, 53, 0x43, 0x00],
}
FIRST_SEEN = [[COLUMNS] + [grey(value) for value in line] for line in FIRST]


class NotDoneTest(unittest.TestCase):
    def lines_after(self, *pieces):
        return answered(BEGIN, *[come(piece) for piece in pieces], *[row(y) for y in range(ROWS)])[-ROWS:]

    def test_one_that_s_not_all_there(self):
        for coding, rest in WHOLE.items():
            far = update(rectangle(0, 0, COLUMNS, ROWS, coding, rest))
            for place in range(len(far)):
                self.assertEqual(self.lines_after(SHOWN, far[:place]), FIRST_SEEN)
            if coding != 1:
                self.assertNotEqual(self.lines_after(SHOWN, far), FIRST_SEEN)

    def test_one_that_s_wrong(self):
        wrong = (
            rectangle(0, 0, 6, 1, 0, [9] * 6),
            rectangle(0, 0, COLUMNS, ROWS, 3, [9] * 20),
            rectangle(0, 0, 4, 3, 1, numbers((2, 0))),
            rectangle(0, 0, COLUMNS, ROWS, 2, number(65536, 4) + [50]),
            rectangle(0, 0, COLUMNS, ROWS, 2,
                      number(2, 4) + [50, 51] + numbers((0, 0, 1, 1)) + [52] + numbers((5, 0, 1, 1))),
            rectangle(0, 0, COLUMNS, ROWS, 4, number(2, 4) + [50, 51, 0, 0, 1, 1, 52, 0, 4, 1, 1]),
            rectangle(0, 0, COLUMNS, ROWS, 5, [14, 60, 61, 2, 0, 0, 0x50, 0]),
        )
        for words in wrong:
            self.assertEqual(self.lines_after(SHOWN, update(words)), FIRST_SEEN)
            self.assertEqual(answered(BEGIN, come(SHOWN + update(words)))[1], [-17])

    def test_tiles_done_ahead_of_a_wrong_one_are_not_shown(self):
        far = greeting(17, 1) + GREYS + update(rectangle(0, 0, 17, 1, 5, [2, 9] + [10, 8, 1, 0x10, 0x00]))
        self.assertEqual(answered(BEGIN, come(far), row(0))[1:], [[-17], [17] + [0] * 17])

    def test_those_before_it_in_the_same_update_are_done(self):
        first = rectangle(0, 0, 2, 1, 0, [1, 2])
        done = [[COLUMNS, grey(1), grey(2)] + FIRST_SEEN[0][3:]] + FIRST_SEEN[1:]
        for coding, rest in WHOLE.items():
            far = update(first, rectangle(0, 0, COLUMNS, ROWS, coding, rest))
            for place in range(4 + len(first), len(far)):
                self.assertEqual(self.lines_after(SHOWN, far[:place]), done)
        far = update(first, rectangle(0, 0, 6, 1, 0), rectangle(0, 3, 1, 1, 0, [3]))
        self.assertEqual(self.lines_after(SHOWN, far), done)
        self.assertEqual(answered(BEGIN, come(SHOWN), come(far), TOLD)[2:], [[-17], [-17, COLUMNS, ROWS, 0, 1, 0, 0]])


if __name__ == "__main__":
    unittest.main()
