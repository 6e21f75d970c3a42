import unittest

from tests.helper import BEGIN, answered, before_size, come, form, numbers, standings

AHEAD = before_size() + numbers((4, 3))
GREATEST = [1, 3, 7, 15, 31, 63, 127, 255]


def stands(far_form):
    return answered(BEGIN, come(AHEAD + far_form), come([0, 0, 0, 0]))[1:]


class FormTest(unittest.TestCase):
    def holds(self, *words):
        self.assertEqual(stands(form(*words)), [[0], [1]], words)

    def is_wrong(self, *words):
        self.assertEqual(stands(form(*words)), [[-15], [-15]], words)

    def test_bits_by_parts(self):
        for bits in range(256):
            if bits in (8, 16, 32):
                self.holds(bits, 0, 1, (1, 1, 1), (0, 1, 2))
            else:
                self.is_wrong(bits, 0, 1, (1, 1, 1), (0, 1, 2))

    def test_bits_by_the_table(self):
        for bits in range(256):
            if bits == 8:
                self.holds(bits)
            else:
                self.is_wrong(bits)

    def test_by_the_table_nothing_else_is_looked_at(self):
        self.holds(8, 0, 0, (2, 65535, 0), (255, 200, 9))
        self.holds(8, 255, 0, (0, 0, 0), (0, 0, 0))

    def test_anything_but_nought_means_by_parts(self):
        for by_parts in (1, 2, 255):
            self.holds(16, 0, by_parts, (31, 63, 31), (11, 5, 0))
            self.is_wrong(8, 0, by_parts, (0, 0, 0), (0, 0, 0))

    def test_each_greatest(self):
        for place in range(3):
            for greatest in list(range(258)) + [511, 1023, 32767, 65535, 256 * 7, 256 * 255]:
                parts = [1, 1, 1]
                parts[place] = greatest
                if greatest in GREATEST:
                    self.holds(32, 0, 1, parts, (0, 0, 0))
                else:
                    self.is_wrong(32, 0, 1, parts, (0, 0, 0))

    def test_each_stands_within_the_bits(self):
        for bits in (8, 16, 32):
            for place in range(3):
                for width, greatest in enumerate(GREATEST, start=1):
                    parts = [1, 1, 1]
                    parts[place] = greatest
                    shifts = [0, 0, 0]
                    shifts[place] = bits - width
                    self.holds(bits, 0, 1, parts, shifts)
                    shifts[place] = bits - width + 1
                    self.is_wrong(bits, 0, 1, parts, shifts)
                    shifts[place] = 255
                    self.is_wrong(bits, 0, 1, parts, shifts)

    def test_parts_may_overlap(self):
        self.holds(8, 0, 1, (255, 255, 255), (0, 0, 0))

    def test_wrong_when_the_sixteen_bytes_are_whole(self):
        for words in ((7,), (16,), (32, 0, 1, (2, 1, 1)), (8, 0, 1, (1, 1, 1), (8, 0, 0))):
            self.assertEqual(standings(AHEAD, form(*words)), [0] * 15 + [-15])


if __name__ == "__main__":
    unittest.main()
