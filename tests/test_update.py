import unittest

from tests.helper import (
    BEGIN, FORMS, PARTS_16_HIGH, PARTS_16_LOW, PARTS_32_HIGH, PARTS_32_LOW, answered, asked, byte_by_byte, come, form,
    greeting, number, numbers, output, pixel, pixels, rectangle, session_after, standings, update,
)

FIRST = [[1, 2, 3, 4], [5, 6, 7, 8], [9, 10, 11, 12]]
SHOWN = greeting(4, 3) + update(rectangle(0, 0, 4, 3, 0, range(1, 13)))


def values_of(many, far_form):
    """Pixels whose bytes all differ, so that a wrong order of bytes shows."""
    size = far_form[0] // 8
    return [int.from_bytes(bytes((17 * at + 5 * byte + 1) % 256 for byte in range(size)), "big") for at in range(many)]


class UpdateTest(unittest.TestCase):
    def test_an_update_of_none_is_done_at_once(self):
        found = answered(BEGIN, come(greeting(300, 2)), output(), come([0, 0, 0]), output(), come([0]), output())
        self.assertEqual(found[3:], [[1], [0], [1], [10] + asked(1, 300, 2)])
        self.assertEqual(session_after(greeting() + update()).updates, 1)

    def test_an_update_of_one(self):
        far = update(rectangle(0, 0, 1, 1, 0, [7]))
        found = answered(BEGIN, come(greeting()), output(), come(far[:-1]), output(), come(far[-1:]), output())
        self.assertEqual(found[3:], [[1], [0], [1], [10] + asked(1, 4, 3)])

    def test_an_update_of_several(self):
        far = update(rectangle(0, 0, 1, 1, 0, [7]), rectangle(1, 0, 0, 0, 5), rectangle(3, 2, 1, 1, 0, [9]))
        session = session_after(greeting(4, 3))
        self.assertEqual(session.fetch(48)[-10:], asked(0, 4, 3))
        session = session_after(greeting(4, 3), far[:-1])
        self.assertEqual((session.screen[0][0], session.screen[2][3], session.updates), (7, 0, 0))
        self.assertEqual(len(session.waiting), 48)
        session = session_after(greeting(4, 3), far)
        self.assertEqual((session.screen[0][0], session.screen[2][3], session.updates), (7, 9, 1))
        self.assertEqual(session.waiting[48:], asked(1, 4, 3))

    def test_many_rectangles(self):
        far = [0, 0] + number(300, 2) + rectangle(0, 0, 1, 1, 0, [7]) * 300
        session = session_after(greeting(4, 3), far[:-1])
        self.assertEqual((session.updates, len(session.waiting)), (0, 48))
        session = session_after(greeting(4, 3), far + update())
        self.assertEqual((session.updates, session.waiting[48:]), (2, asked(1, 4, 3) * 2))

    def test_later_rectangles_cover_earlier_ones(self):
        session = session_after(greeting(2, 1) + update(rectangle(0, 0, 2, 1, 0, [1, 2]), rectangle(1, 0, 1, 1, 0, [3])))
        self.assertEqual(session.screen, [[1, 3]])

    def test_rectangles_of_no_columns_or_no_rows(self):
        rests = {0: [], 1: numbers((0, 0)), 2: number(0, 4) + [9], 4: number(0, 4) + [9], 5: []}
        for coding, rest in rests.items():
            for left, top, width, height in ((0, 0, 0, 0), (1, 1, 0, 2), (1, 1, 3, 0), (4, 3, 0, 0), (4, 0, 0, 3)):
                session = session_after(SHOWN + update(rectangle(left, top, width, height, coding, rest)) + [2])
                found = (session.standing(), session.screen, session.updates, session.bells)
                self.assertEqual(found, (1, FIRST, 2, 1))

    def test_rectangles_at_the_edge(self):
        rests = {0: [50] * 4, 1: numbers((2, 1)), 2: number(0, 4) + [50], 4: number(0, 4) + [50], 5: [2, 50]}
        for coding, rest in rests.items():
            session = session_after(SHOWN + update(rectangle(2, 1, 2, 2, coding, rest)))
            self.assertEqual((session.standing(), session.updates), (1, 2))
            if coding != 1:
                self.assertEqual(session.screen, [[1, 2, 3, 4], [5, 6, 50, 50], [9, 10, 50, 50]])

    def test_the_screen_waits_until_the_rectangle_is_done(self):
        rests = {
            0: [50] * 12,
            1: numbers((0, 0)),
            2: number(1, 4) + [50, 51] + numbers((0, 0, 1, 1)),
            4: number(1, 4) + [50, 51, 0, 0, 1, 1],
            5: [10, 50, 1, 0, 0],
        }
        for coding, rest in rests.items():
            far = update(rectangle(0, 0, 4, 3, coding, rest))
            for cut in range(len(far)):
                session = session_after(SHOWN, far[:cut])
                self.assertEqual((session.standing(), session.screen, session.updates), (1, FIRST, 1))
            self.assertEqual(session_after(SHOWN, far).updates, 2)


class PlainTest(unittest.TestCase):
    def test_each_form(self):
        for far_form in FORMS:
            values = values_of(6, far_form)
            far = update(rectangle(1, 1, 3, 2, 0, pixels(values, far_form)))
            for pieces in ([far], byte_by_byte(far)):
                session = session_after(greeting(5, 4, far_form), *pieces)
                shown = [[0] * 5, [0] + values[:3] + [0], [0] + values[3:] + [0], [0] * 5]
                self.assertEqual((session.screen, session.standing()), (shown, 1))

    def test_the_order_of_bytes(self):
        for far_form, data, value in (
            (PARTS_16_LOW, [1, 2], 513), (PARTS_16_HIGH, [1, 2], 258),
            (PARTS_32_LOW, [1, 2, 3, 4], 0x04030201), (PARTS_32_HIGH, [1, 2, 3, 4], 0x01020304),
        ):
            session = session_after(greeting(1, 1, far_form) + update(rectangle(0, 0, 1, 1, 0, data)))
            self.assertEqual(session.screen, [[value]])

    def test_a_whole_row_of_1024(self):
        values = [at % 256 for at in range(1024)]
        session = session_after(greeting(1024, 1024), update(rectangle(0, 1023, 1024, 1, 0, values)))
        self.assertEqual(session.screen[1023], values)
        self.assertEqual(session.screen[:1023], [[0] * 1024] * 1023)

    def test_a_changed_row_is_not_shared_with_others(self):
        session = session_after(greeting(3, 3) + update(rectangle(1, 1, 1, 1, 0, [9])))
        self.assertEqual(session.screen, [[0, 0, 0], [0, 9, 0], [0, 0, 0]])


class CopyTest(unittest.TestCase):
    def after(self, left, top, width, height, from_left, from_top):
        far = update(rectangle(left, top, width, height, 1, numbers((from_left, from_top))))
        session = session_after(SHOWN, far)
        self.assertEqual((session.standing(), session.updates), (1, 2))
        return session.screen

    def test_every_copy_is_of_what_was_there_before(self):
        for width in range(5):
            for height in range(4):
                for left in range(5 - width):
                    for top in range(4 - height):
                        for from_left in range(5 - width):
                            for from_top in range(4 - height):
                                expected = [list(row) for row in FIRST]
                                for y in range(height):
                                    for x in range(width):
                                        expected[top + y][left + x] = FIRST[from_top + y][from_left + x]
                                found = self.after(left, top, width, height, from_left, from_top)
                                self.assertEqual(found, expected)

    def test_source_at_the_edge_and_one_beyond(self):
        ahead = SHOWN + [0, 0, 0, 1] + rectangle(0, 0, 2, 2, 1)
        self.assertEqual(standings(ahead, numbers((2, 1))), [1, 1, 1, 1])
        self.assertEqual(standings(ahead, numbers((3, 1))), [1, 1, 1, -17])
        self.assertEqual(standings(ahead, numbers((2, 2))), [1, 1, 1, -17])

    def test_a_source_far_off(self):
        far = greeting(700, 600) + update(rectangle(515, 301, 1, 1, 0, [9]))
        far += update(rectangle(600, 599, 1, 1, 1, numbers((515, 301))))
        screen = session_after(far).screen
        self.assertEqual((screen[599][600], screen[301][515], sum(sum(row) for row in screen)), (9, 9, 18))

    def test_a_copied_row_goes_its_own_way(self):
        far = SHOWN + update(rectangle(0, 1, 4, 1, 1, numbers((0, 0))), rectangle(0, 0, 1, 1, 0, [99]))
        self.assertEqual(session_after(far).screen, [[99, 2, 3, 4], [1, 2, 3, 4], [9, 10, 11, 12]])


class PartsTest(unittest.TestCase):
    def test_each_form_and_both_sizes(self):
        for far_form in FORMS:
            for coding, size in ((2, 2), (4, 1)):
                ground, first, second = values_of(3, far_form)
                rest = number(2, 4) + pixel(ground, far_form)
                rest += pixel(first, far_form) + numbers((0, 0, 2, 1), size)
                rest += pixel(second, far_form) + numbers((1, 0, 2, 2), size)
                far = update(rectangle(1, 1, 3, 2, coding, rest))
                shown = [[0] * 5, [0, first, second, second, 0], [0, ground, second, second, 0], [0] * 5]
                for pieces in ([far], byte_by_byte(far)):
                    session = session_after(greeting(5, 4, far_form), *pieces)
                    self.assertEqual((session.screen, session.updates), (shown, 1))

    def test_no_parts(self):
        for coding in (2, 4):
            session = session_after(greeting(2, 2) + update(rectangle(0, 0, 2, 1, coding, number(0, 4) + [9])) + [2])
            self.assertEqual((session.screen, session.bells), ([[9, 9], [0, 0]], 1))

    def test_parts_at_the_edge(self):
        for coding, size in ((2, 2), (4, 1)):
            for left, top, width, height in (
                (0, 0, 3, 2), (2, 1, 1, 1), (3, 2, 0, 0), (3, 0, 0, 2), (0, 2, 3, 0), (0, 0, 0, 0),
            ):
                rest = number(1, 4) + [8, 9] + numbers((left, top, width, height), size)
                shown = [[8] * 3, [8] * 3]
                for y in range(top, top + height):
                    for x in range(left, left + width):
                        shown[y][x] = 9
                session = session_after(greeting(3, 2) + update(rectangle(0, 0, 3, 2, coding, rest)))
                self.assertEqual((session.standing(), session.screen), (1, shown))

    def test_parts_wider_than_a_byte_tells(self):
        rest = number(1, 4) + [8, 9] + numbers((300, 0, 500, 1))
        session = session_after(greeting(1000, 1) + update(rectangle(100, 0, 900, 1, 2, rest)))
        self.assertEqual(session.screen, [[0] * 100 + [8] * 300 + [9] * 500 + [8] * 100])

    def test_65535_parts(self):
        for coding, size in ((2, 2), (4, 1)):
            ahead = greeting(2, 1) + [0, 0, 0, 1] + rectangle(0, 0, 2, 1, coding)
            self.assertEqual(standings(ahead, number(65535, 4)), [1, 1, 1, 1])
            self.assertEqual(standings(ahead, number(65536, 4)), [1, 1, 1, -17])
            part = [9] + numbers((1, 0, 1, 1), size)
            session = session_after(ahead + number(65535, 4) + [8] + part * 65534)
            self.assertEqual((session.standing(), session.screen, session.updates), (1, [[0, 0]], 0))
            session = session_after(ahead + number(65535, 4) + [8] + part * 65535 + [2])
            self.assertEqual((session.screen, session.updates, session.bells), ([[8, 9]], 1, 1))

    def test_a_filled_row_goes_its_own_way(self):
        rest = number(0, 4) + [8]
        far = greeting(2, 2) + update(rectangle(0, 0, 2, 2, 2, rest), rectangle(0, 0, 1, 1, 0, [9]))
        self.assertEqual(session_after(far).screen, [[9, 8], [8, 8]])


class FormOfTheTableTest(unittest.TestCase):
    def test_pixels_by_the_table_are_kept_as_they_came(self):
        session = session_after(greeting(2, 1, form()) + update(rectangle(0, 0, 2, 1, 0, [0, 255])))
        self.assertEqual(session.screen, [[0, 255]])


if __name__ == "__main__":
    unittest.main()
