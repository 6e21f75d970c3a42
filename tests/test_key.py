import unittest

from tests.helper import BEGIN, answered, come, greeting, key, number, output


class KeyTest(unittest.TestCase):
    def test_what_is_sent(self):
        for code in (0, 1, 255, 256, 65293, 16909060, 2147483648, 4294967295):
            for down in (0, 1):
                found = answered(BEGIN, come(greeting()), output(), key(code, down), output())
                self.assertEqual(found[3:], [[0], [8, 4, down, 0, 0] + number(code, 4)])

    def test_several(self):
        found = answered(BEGIN, come(greeting()), output(), key(97, 1), key(97, 0), output())
        self.assertEqual(found[5], [16, 4, 1, 0, 0, 0, 0, 0, 97, 4, 0, 0, 0, 0, 0, 0, 97])

    def test_down_out_of_bounds(self):
        for down in (-1, 2, 255, 256, -2147483648, 2147483647):
            found = answered(BEGIN, come(greeting()), output(), key(97, down), output(), come([]))
            self.assertEqual(found[3:], [[-2], [0], [1]])

    def test_before_it_stands_at_one(self):
        far = greeting(name=b"far")
        for cut in range(len(far)):
            found = answered(BEGIN, come(far[:cut]), output(), key(97, 1), output(), come(far[cut:]), key(97, 1))
            self.assertEqual(found[3:], [[-3], [0], [1], [0]])

    def test_after_wrong(self):
        for far in ([0] * 12, greeting() + [9]):
            found = answered(BEGIN, come(far), output(), key(97, 0), key(4294967295, 1), output())
            self.assertEqual(found[3:], [[-3], [-3], [0]])

    def test_bounds_are_told_first(self):
        self.assertEqual(answered(BEGIN, key(97, 2)), [[0], [-2]])
        self.assertEqual(answered(BEGIN, come([0] * 12), key(97, -1)), [[0], [-11], [-2]])

    def test_in_the_middle_of_an_update(self):
        found = answered(BEGIN, come(greeting() + [0, 0, 0, 1, 0]), output(), key(97, 1), output())
        self.assertEqual(found[3:], [[0], [8, 4, 1, 0, 0, 0, 0, 0, 97]])


if __name__ == "__main__":
    unittest.main()
