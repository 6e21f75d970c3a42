import unittest

from tests.helper import (
    BEGIN, ENDS, GREYS, TOLD, agree, answered, before_size, come, form, greeting, grey, number, numbers, output,
    rectangle, row, sent_by_greeting, update,
)

DRAWN = greeting(4, 3) + GREYS + update(rectangle(0, 0, 4, 3, 0, range(1, 13)))
ROWS = [[4] + [grey(value) for value in range(first, first + 4)] for first in (1, 5, 9)]
BEYOND_Y = (-1, 1024, 1025, 65536, -2147483648, 2147483647)
BEYOND_MOST = (-1, 1025, 65536, -2147483648, 2147483647)


class RowTest(unittest.TestCase):
    def test_each_row(self):
        found = answered(BEGIN, come(DRAWN), row(0), row(1), row(2), row(1))
        self.assertEqual(found[2:], ROWS + [ROWS[1]])

    def test_most_changes_nothing_where_it_s_enough(self):
        for most in (4, 5, 1023, 1024):
            self.assertEqual(answered(BEGIN, come(DRAWN), row(2, most))[2], ROWS[2])

    def test_most_is_less_than_the_columns(self):
        for most in range(4):
            self.assertEqual(answered(BEGIN, come(DRAWN), row(0, most), row(2, most))[2:], [[-1], [-1]])

    def test_screens_at_the_edges(self):
        for columns in (1, 2, 1023, 1024):
            for rows in (1, 1023, 1024):
                last_row = rows - 1
                found = answered(BEGIN, come(greeting(columns, rows)), row(last_row, columns), row(last_row, columns - 1),
                                 row(0, columns), row(min(rows, 1023), columns))
                blank = [columns] + [0] * columns
                last = blank if rows == 1024 else [-3]
                agree(self, found[2:], [blank, [-1], blank, last])

    def test_a_new_screen_is_black(self):
        for far_form in (form(), form(8, 0, 1, (7, 7, 3), (0, 3, 6)), form(32, 1, 1, (255, 255, 255), (0, 8, 16))):
            found = answered(BEGIN, come(greeting(3, 2, far_form)), row(0), row(1), row(2))
            self.assertEqual(found[2:], [[3, 0, 0, 0], [3, 0, 0, 0], [-3]])

    def test_nothing_is_sent_and_nothing_changes(self):
        calls = (row(0), row(0, 3), row(3), row(-1), row(0, -1))
        found = answered(BEGIN, come(greeting()), TOLD, *calls, output(), TOLD)
        self.assertEqual(found[-2], [48] + sent_by_greeting())
        self.assertEqual(found[2], found[-1])


class RefusedTest(unittest.TestCase):
    def test_out_of_bounds(self):
        for ahead in [[], DRAWN, greeting(1024, 1024)] + [far for far, columns, rows in ENDS.values()]:
            for y in BEYOND_Y:
                for most in BEYOND_MOST + (0, 4, 1024):
                    self.assertEqual(answered(BEGIN, come(ahead), row(y, most))[2], [-2])
            for most in BEYOND_MOST:
                for y in (0, 3, 1023):
                    self.assertEqual(answered(BEGIN, come(ahead), row(y, most))[2], [-2])

    def test_no_such_row(self):
        for y in (3, 4, 255, 256, 1022, 1023):
            for most in (0, 3, 4, 1024):
                self.assertEqual(answered(BEGIN, come(DRAWN), row(y, most))[2], [-3])

    def test_before_there_s_a_screen(self):
        far = greeting(4, 3, name=b"far")
        for place in range(len(far)):
            found = answered(BEGIN, come(far[:place]), row(0, 0), row(0), row(2, 4), row(1023, 1024), row(0, 1025),
                             come(far[place:]), row(0), row(3))
            self.assertEqual(found[2:], [[-3], [-3], [-3], [-3], [-2], [1], [4, 0, 0, 0, 0], [-3]])
        self.assertEqual(answered(BEGIN, row(0, 0), row(0), row(1024)), [[0], [-3], [-3], [-2]])

    def test_bounds_are_told_first_then_the_row_then_most(self):
        found = answered(BEGIN, come(DRAWN), row(1024, 0), row(3, 1025), row(3, 0), row(2, 0), row(2, 4))
        self.assertEqual(found[2:], [[-2], [-2], [-3], [-1], ROWS[2]])


class AfterWrongTest(unittest.TestCase):
    def test_after_each_wrong(self):
        for wrong, (far, columns, rows) in ENDS.items():
            found = answered(BEGIN, come(far), row(0), row(1), row(2), row(0, 4), row(0, -1))
            shown = [[5, 0, 0, 0, 0, 0]] * 2 + [[-3], [-1], [-2]] if rows else [[-3]] * 4 + [[-2]]
            self.assertEqual(found[1:], [[-10 - wrong]] + shown)

    def test_after_each_wrong_of_5_there_s_no_screen(self):
        for rest in (numbers((4, 1025)), numbers((4, 3)) + form(9), numbers((4, 3)) + form() + number(65537, 4)):
            found = answered(BEGIN, come(before_size() + rest), row(0), row(1023, 0))
            self.assertEqual(found[1:], [[-15], [-3], [-3]])

    def test_the_screen_as_it_stood(self):
        ends = ([9], [1, 0, 1, 0, 0, 1], [3, 0, 0, 0, 255, 0, 0, 0], update(rectangle(0, 0, 4, 3, 7)),
                update(rectangle(0, 0, 5, 3, 0)), update(rectangle(0, 0, 4, 3, 2, [0, 0, 0, 1, 50, 51] + [1] * 8)))
        behind = update(rectangle(0, 0, 4, 3, 0, range(20, 32)))
        for far in ends:
            found = answered(BEGIN, come(DRAWN), come(far + behind), row(0), row(1), come(behind), row(2), row(3))
            self.assertLess(found[2][0], -15)
            self.assertEqual(found[3:], ROWS[:2] + [found[2], ROWS[2], [-3]])


if __name__ == "__main__":
    unittest.main()
