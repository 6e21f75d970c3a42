import unittest

from tests.helper import (
    FORMS, PARTS_16_HIGH, byte_by_byte, greeting, pixel, pixels, rectangle, session_after, standings, update,
)


def tiled(columns, rows, rest, far_form=None):
    """The viewer after one rectangle of tiles over its whole screen, and a bell to show that it's done."""
    return session_after(greeting(columns, rows, far_form) + update(rectangle(0, 0, columns, rows, 5, rest)) + [2])


class TilesTest(unittest.TestCase):
    def shows(self, columns, rows, rest, shown, far_form=None):
        session = tiled(columns, rows, rest, far_form)
        self.assertEqual((session.standing(), session.updates, session.bells), (1, 1, 1))
        self.assertEqual(session.screen, shown)

    def test_back_and_front_are_nought_at_first(self):
        self.shows(2, 1, [0], [[0, 0]])
        self.shows(2, 1, [10, 9, 1, 0, 0], [[0, 9]])

    def test_back_alone(self):
        self.shows(3, 2, [2, 9], [[9] * 3] * 2)

    def test_front_alone_draws_nothing(self):
        self.shows(3, 2, [4, 9], [[0] * 3] * 2)

    def test_parts_by_the_front(self):
        self.shows(3, 2, [14, 8, 9, 2, 0x00, 0x10, 0x21, 0x00], [[9, 9, 8], [8, 8, 9]])

    def test_parts_by_their_own_pixels(self):
        self.shows(3, 2, [26, 8, 2, 5, 0x00, 0x10, 6, 0x11, 0x10], [[5, 5, 8], [8, 6, 6]])

    def test_own_pixels_leave_the_front(self):
        rest = [30, 8, 9, 1, 5, 0x00, 0x00] + [8, 1, 0x00, 0x00]
        self.shows(17, 1, rest, [[5] + [8] * 15 + [9]])

    def test_own_pixels_without_parts(self):
        self.shows(2, 1, [18, 9], [[9, 9]])

    def test_no_parts_though_told(self):
        self.shows(2, 1, [10, 9, 0], [[9, 9]])

    def test_later_parts_cover_earlier_ones(self):
        self.shows(3, 1, [26, 8, 2, 5, 0x00, 0x20, 6, 0x10, 0x00], [[5, 6, 5]])

    def test_255_parts(self):
        self.shows(2, 1, [10, 8, 255] + [0x10, 0x00] * 255, [[8, 0]])

    def test_high_bits_mean_nothing(self):
        self.shows(2, 1, [0xe2, 9], [[9, 9]])

    def test_plain_pixels(self):
        self.shows(3, 2, [1, 1, 2, 3, 4, 5, 6], [[1, 2, 3], [4, 5, 6]])

    def test_plain_pixels_together_with_other_bits(self):
        for bits in range(1, 256, 2):
            self.shows(3, 1, [bits, 1, 2, 3], [[1, 2, 3]])

    def test_plain_pixels_leave_back_and_front(self):
        rest = [6, 8, 9] + [31] + [7] * 16 + [8, 1, 0x00, 0x00]
        self.shows(34, 1, rest, [[8] * 16 + [7] * 16 + [9, 8]])

    def test_back_and_front_go_on_to_the_next_tiles(self):
        rest = [6, 8, 9] + [8, 1, 0x00, 0x00] + [2, 7] + [12, 6, 1, 0x00, 0x00] + [8, 1, 0x10, 0x00]
        row = [8] * 16 + [9] + [8] * 15 + [7] * 16 + [6] + [7] * 15 + [7, 6]
        self.shows(66, 1, rest, [row])

    def test_back_and_front_begin_anew_in_each_rectangle(self):
        far = update(rectangle(0, 0, 2, 1, 5, [6, 8, 9]), rectangle(2, 0, 2, 1, 5, [10, 7, 1, 0, 0]),
                     rectangle(4, 0, 2, 1, 5, [12, 5, 1, 0, 0]))
        session = session_after(greeting(6, 1) + far)
        self.assertEqual(session.screen, [[8, 8, 0, 7, 5, 0]])

    def test_tiles_from_the_rectangle_s_corner_row_by_row(self):
        far = update(rectangle(3, 2, 35, 20, 5, [2, 1, 2, 2, 2, 3, 2, 4, 2, 5, 2, 6]))
        session = session_after(greeting(40, 25), far)
        upper = [0] * 3 + [1] * 16 + [2] * 16 + [3] * 3 + [0] * 2
        lower = [0] * 3 + [4] * 16 + [5] * 16 + [6] * 3 + [0] * 2
        self.assertEqual(session.screen, [[0] * 40] * 2 + [upper] * 16 + [lower] * 4 + [[0] * 40] * 3)
        self.assertEqual((session.standing(), session.updates), (1, 1))

    def test_sizes_about_sixteen(self):
        for columns in (1, 15, 16, 17, 31, 32, 33):
            for rows in (1, 15, 16, 17, 32, 33):
                many = -(-columns // 16) * -(-rows // 16)
                rest = [byte for place in range(many) for byte in (2, place + 1)]
                wide = -(-columns // 16)
                shown = [[y // 16 * wide + x // 16 + 1 for x in range(columns)] for y in range(rows)]
                self.shows(columns, rows, rest, shown)

    def test_plain_pixels_of_smaller_tiles(self):
        values = list(range(1, 5))
        rest = [0] + [1] + values[:1] * 16 + [1] + values[:1] * 16 + [1, 77]
        shown = [[0] * 16 + [1]] * 16 + [[1] * 16 + [77]]
        self.shows(17, 17, rest, shown)

    def test_each_form(self):
        for far_form in FORMS:
            size = far_form[0] // 8
            back, front, own = [int.from_bytes(bytes(range(at, at + size)), "big") for at in (11, 21, 31)]
            rest = [14] + pixel(back, far_form) + pixel(front, far_form) + [1, 0x10, 0x00]
            rest += [24, 1] + pixel(own, far_form) + [0x00, 0x00]
            rest += [1] + pixels([own, front], far_form)
            far = update(rectangle(0, 0, 34, 1, 5, rest))
            shown = [[back, front] + [back] * 14 + [own] + [back] * 15 + [own, front]]
            for pieces in ([far], byte_by_byte(far)):
                session = session_after(greeting(34, 1, far_form), *pieces)
                self.assertEqual((session.screen, session.updates), (shown, 1))

    def test_every_small_part_within_or_beyond_a_tile(self):
        for columns, rows in ((16, 16), (5, 3)):
            ahead = greeting(columns, rows) + [0, 0, 0, 1] + rectangle(0, 0, columns, rows, 5, [12, 9, 1])
            for left in (0, 1, columns - 1, 15):
                for top in (0, 1, rows - 1, 15):
                    for width in (1, columns - left, columns - left + 1, 16):
                        for height in (1, rows - top, rows - top + 1, 16):
                            if not (1 <= width <= 16 and 1 <= height <= 16):
                                continue
                            session = session_after(ahead, [left * 16 + top, (width - 1) * 16 + height - 1])
                            if left + width > columns or top + height > rows:
                                self.assertEqual(session.standing(), -17)
                                continue
                            shown = [[0] * columns for row in range(rows)]
                            for y in range(top, top + height):
                                for x in range(left, left + width):
                                    shown[y][x] = 9
                            self.assertEqual((session.standing(), session.screen), (1, shown))

    def test_a_part_beyond_the_tile_though_within_the_rectangle(self):
        ahead = greeting(32, 32) + [0, 0, 0, 1] + rectangle(0, 0, 32, 32, 5, [12, 9, 1])
        self.assertEqual(standings(ahead, [0xf0, 0x10]), [1, -17])
        self.assertEqual(standings(ahead, [0x0f, 0x01]), [1, -17])

    def test_each_bit_takes_its_bytes_and_no_more(self):
        size = 2
        for bits in range(32):
            if bits & 1:
                need = 16 * 16 * size
            else:
                need = size * (bits >> 1 & 1) + size * (bits >> 2 & 1)
                if bits & 8:
                    need += 1 + 2 * (2 + size * (bits >> 4 & 1))
            rest = [bits] + [0] * need
            if bits & 8 and not bits & 1:
                rest[1 + size * (bits >> 1 & 1) + size * (bits >> 2 & 1)] = 2
            far = greeting(16, 16, PARTS_16_HIGH) + update(rectangle(0, 0, 16, 16, 5, rest))
            self.assertEqual(session_after(far[:-1]).updates, 0)
            session = session_after(far + [2])
            self.assertEqual((session.updates, session.bells), (1, 1))


if __name__ == "__main__":
    unittest.main()
