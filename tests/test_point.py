import unittest

from tests.helper import (
    BEGIN, ENDS, agree, answered, asked, come, greeting, key, number, output, point, sent_by_greeting, update,
)

GREETED = come(greeting())
BEYOND = (-1, 1024, 1025, 65536, -2147483648, 2147483647)
BEYOND_BUTTONS = (-1, 256, 257, 65536, -2147483648, 2147483647)
# So many updates of none, with one key, fill what waits up to just 65536.
UPDATES = 6548


class PointTest(unittest.TestCase):
    def test_what_is_sent(self):
        for x in (0, 1, 255, 256, 258, 1022, 1023):
            for y in (0, 1, 255, 256, 515, 1022, 1023):
                for buttons in (0, 1, 7, 254, 255):
                    found = answered(BEGIN, GREETED, output(), point(x, y, buttons), output(), output())
                    self.assertEqual(found[3:], [[0], [6, 5, buttons] + number(x, 2) + number(y, 2), [0]])

    def test_an_example_in_bytes(self):
        found = answered(BEGIN, GREETED, output(), point(259, 772, 9), output())
        self.assertEqual(found[4], [6, 5, 9, 1, 3, 3, 4])

    def test_it_need_not_lie_within_the_screen(self):
        found = answered(BEGIN, come(greeting(1, 1)), output(), point(1023, 1023, 0), output())
        self.assertEqual(found[3:], [[0], [6, 5, 0, 3, 255, 3, 255]])

    def test_several_in_their_order(self):
        found = answered(BEGIN, GREETED, output(), point(1, 2, 3), key(97, 1), point(4, 5, 6), come(update()), output())
        sent = [5, 3, 0, 1, 0, 2] + [4, 1, 0, 0, 0, 0, 0, 97] + [5, 6, 0, 4, 0, 5] + asked(1, 4, 3)
        self.assertEqual(found[-1], [30] + sent)

    def test_in_the_middle_of_an_update(self):
        found = answered(BEGIN, come(greeting() + [0, 0, 0, 1, 0]), output(), point(1, 2, 3), output())
        self.assertEqual(found[3:], [[0], [6, 5, 3, 0, 1, 0, 2]])


class RefusedTest(unittest.TestCase):
    def refused(self, call, ahead, refusal):
        found = answered(BEGIN, come(ahead), output(), call, output())
        self.assertEqual(found[3:], [[refusal], [0]], call)

    def test_out_of_bounds(self):
        stages = [greeting(), [], greeting()[:-1]] + [far for far, columns, rows in ENDS.values()]
        for ahead in stages:
            for far_off in BEYOND:
                self.refused(point(far_off, 0, 0), ahead, -2)
                self.refused(point(0, far_off, 0), ahead, -2)
                self.refused(point(far_off, far_off, 0), ahead, -2)
            for far_off in BEYOND_BUTTONS:
                self.refused(point(0, 0, far_off), ahead, -2)
                self.refused(point(1023, 1023, far_off), ahead, -2)
            self.refused(point(1024, 1024, 256), ahead, -2)

    def test_before_it_stands_at_one(self):
        far = greeting(name=b"far")
        for place in range(len(far)):
            found = answered(BEGIN, come(far[:place]), output(), point(1, 2, 3), output(), come(far[place:]), output(),
                             point(1, 2, 3), output())
            self.assertEqual(found[3:6], [[-3], [0], [1]])
            self.assertEqual(found[7:], [[0], [6, 5, 3, 0, 1, 0, 2]])

    def test_before_anything_has_come(self):
        self.assertEqual(answered(BEGIN, point(0, 0, 0), point(1023, 1023, 255)), [[0], [-3], [-3]])

    def test_after_each_wrong(self):
        for wrong, (far, columns, rows) in ENDS.items():
            found = answered(BEGIN, come(far), output(), point(0, 0, 0), point(1023, 1023, 255), output())
            self.assertEqual(found[1:2] + found[3:], [[-10 - wrong], [-3], [-3], [0]])

    def test_a_refusal_leaves_what_waits(self):
        found = answered(BEGIN, GREETED, point(-1, 0, 0), point(0, 0, 256), output())
        self.assertEqual(found[2:], [[-2], [-2], [48] + sent_by_greeting()])


class FullTest(unittest.TestCase):
    def test_whole_or_not_at_all(self):
        sent = sent_by_greeting() + asked(1, 4, 3) * UPDATES + [4, 1, 0, 0, 0, 0, 0, 7]
        self.assertEqual(len(sent), 65536)
        for room in range(14):
            found = answered(BEGIN, GREETED, come(update() * UPDATES), key(7, 1), output(room), point(1, 2, 3),
                             point(4, 5, 6), output(), output())
            waiting = sent[room:]
            if room >= 6:
                waiting = waiting + [5, 3, 0, 1, 0, 2]
            if room >= 12:
                waiting = waiting + [5, 6, 0, 4, 0, 5]
            agree(self, found[5:], [[0], [0], [len(waiting)] + waiting, [0]])

    def test_what_was_dropped_does_not_come_later(self):
        found = answered(BEGIN, GREETED, come(update() * UPDATES), key(7, 1), point(1, 2, 3), output(5), point(1, 2, 3),
                         output(), output(), point(4, 5, 6), output())
        self.assertEqual([found[4], found[6], found[7][0], found[7][-8:]],
                         [[0], [0], 65531, [4, 1, 0, 0, 0, 0, 0, 7]])
        self.assertEqual(found[8:], [[0], [0], [6, 5, 6, 0, 4, 0, 5]])


if __name__ == "__main__":
    unittest.main()
