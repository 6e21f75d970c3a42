import unittest

from tests.helper import (
    BEGIN, ENDS, TOLD, agree, answered, byte_by_byte, come, cut, cut_text, greeting, number, output, sent_by_greeting,
    update,
)

TEXT = list(b"a far text")
BEYOND = (-1, 65537, 65538, -2147483648, 2147483647)


class CutTest(unittest.TestCase):
    def test_its_beginning(self):
        for most in (0, 1, 2, 9, 10, 11, 65535, 65536):
            many = min(most, 10)
            found = answered(BEGIN, come(greeting() + cut_text(TEXT)), cut(most))
            self.assertEqual(found[2], [many] + TEXT[:many])

    def test_it_stays(self):
        found = answered(BEGIN, come(greeting() + cut_text(TEXT)), cut(4), cut(4), cut(), cut(0), cut(), TOLD)
        whole = [10] + TEXT
        self.assertEqual(found[2:7], [[4] + TEXT[:4], [4] + TEXT[:4], whole, [0], whole])
        self.assertEqual(found[7][5], 10)

    def test_before_any_cut_text(self):
        self.assertEqual(answered(BEGIN, cut(0), cut(1), cut()), [[0], [0], [0], [0]])
        far = greeting(name=b"far")
        for place in range(len(far) + 1):
            self.assertEqual(answered(BEGIN, come(far[:place]), cut(), cut(0))[2:], [[0], [0]])

    def test_the_last_one(self):
        far = greeting() + cut_text(TEXT) + [2] + cut_text([1, 2, 3]) + update()
        self.assertEqual(answered(BEGIN, come(far), cut())[2], [3, 1, 2, 3])
        self.assertEqual(answered(BEGIN, come(far + cut_text(TEXT)), cut())[2], [10] + TEXT)

    def test_an_empty_one_takes_the_place_of_the_one_before(self):
        found = answered(BEGIN, come(greeting() + cut_text(TEXT)), cut(), come(cut_text([])), cut(), TOLD)
        self.assertEqual(found[2:5], [[10] + TEXT, [1], [0]])
        self.assertEqual(found[5], [1, 4, 3, 0, 0, 0, 0])

    def test_one_that_s_not_all_there_yet(self):
        message = cut_text(TEXT)
        for place in range(len(message)):
            found = answered(BEGIN, come(greeting()), come(message[:place]), cut(), come(message[place:]), cut())
            self.assertEqual(found[3:], [[0], [1], [10] + TEXT])
            found = answered(BEGIN, come(greeting() + cut_text([7, 8])), come(message[:place]), cut(), cut(1))
            self.assertEqual(found[3:], [[2, 7, 8], [1, 7]])

    def test_byte_by_byte(self):
        found = answered(BEGIN, come(greeting()), *[come(piece) for piece in byte_by_byte(cut_text(TEXT))], cut())
        self.assertEqual(found[-1], [10] + TEXT)

    def test_every_byte(self):
        text = list(range(256)) * 2
        self.assertEqual(answered(BEGIN, come(greeting() + cut_text(text)), cut())[2], [512] + text)

    def test_of_65536(self):
        text = [at % 251 for at in range(65536)]
        ahead = greeting() + [3, 0, 0, 0] + number(65536, 4)
        found = answered(BEGIN, come(ahead), come(text[:30000]), come(text[30000:60000]), come(text[60000:-1]), cut(1),
                         come(text[-1:]), cut(1), cut(65535), cut(65536), TOLD)
        self.assertEqual(found[5:8], [[0], [1], [1, 0]])
        agree(self, found[8:10], [[65535] + text[:-1], [65536] + text])
        self.assertEqual(found[10], [1, 4, 3, 0, 0, 65536, 0])

    def test_nothing_is_sent(self):
        found = answered(BEGIN, come(greeting() + cut_text(TEXT)), cut(), cut(-1), output())
        self.assertEqual(found[4], [48] + sent_by_greeting())


class RefusedTest(unittest.TestCase):
    def test_out_of_bounds(self):
        for ahead in [[], greeting(), greeting() + cut_text(TEXT)] + [far for far, columns, rows in ENDS.values()]:
            for most in BEYOND:
                found = answered(BEGIN, come(ahead), TOLD, cut(most), TOLD)
                self.assertEqual(found[3], [-2])
                self.assertEqual(found[2], found[4])

    def test_a_refusal_leaves_the_text(self):
        found = answered(BEGIN, come(greeting() + cut_text(TEXT)), cut(-1), cut(65537), cut())
        self.assertEqual(found[2:], [[-2], [-2], [10] + TEXT])


class AfterWrongTest(unittest.TestCase):
    def test_after_each_wrong(self):
        for wrong, (far, columns, rows) in ENDS.items():
            self.assertEqual(answered(BEGIN, come(far), cut(), cut(0))[1:], [[-10 - wrong], [0], [0]])

    def test_it_s_told_as_it_stood(self):
        for end in ([9], [3, 0, 0, 0] + number(65537, 4), update([0] * 11 + [3])):
            far = greeting() + cut_text(TEXT) + end + cut_text([1, 2])
            found = answered(BEGIN, come(far), cut(), cut(2), come(cut_text([3])), cut())
            self.assertLess(found[1][0], -15)
            self.assertEqual(found[2:], [[10] + TEXT, [2] + TEXT[:2], found[1], [10] + TEXT])


if __name__ == "__main__":
    unittest.main()
