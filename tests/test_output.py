import unittest

from tests.helper import BEGIN, VERSION, answered, asked, come, greeting, key, output, sent_by_greeting, update

SENT = sent_by_greeting()
# So many updates of none, with one key, fill what waits up to just 65536.
UPDATES = 6548


class OutputTest(unittest.TestCase):
    def test_most(self):
        for most in (0, 1, 2, 47, 48, 49, 65535, 65536):
            many = min(most, 48)
            found = answered(BEGIN, come(greeting()), output(most), output(65536))
            self.assertEqual(found[2:], [[many] + SENT[:many], [48 - many] + SENT[many:]])

    def test_out_of_bounds(self):
        for most in (-1, 65537, -2147483648, 2147483647):
            found = answered(BEGIN, output(most), come(greeting()), output(most), output())
            self.assertEqual(found, [[0], [-2], [1], [-2], [48] + SENT])

    def test_out_of_bounds_after_wrong(self):
        found = answered(BEGIN, come([0] * 12), output(-1), output(65537), output(0), output())
        self.assertEqual(found, [[0], [-11], [-2], [-2], [0], [0]])

    def test_piece_by_piece(self):
        calls = [BEGIN, come(greeting())] + [output(7)] * 8
        found = answered(*calls)[2:]
        self.assertEqual([one[0] for one in found], [7] * 6 + [6, 0])
        self.assertEqual([byte for one in found for byte in one[1:]], SENT)

    def test_what_is_fetched_is_gone(self):
        found = answered(BEGIN, come(VERSION), output(), output(), come([1, 1]), output(), output())
        self.assertEqual(found, [[0], [0], [12] + VERSION, [0], [0], [1, 1], [0]])

    def test_new_words_stand_behind_those_that_wait(self):
        found = answered(BEGIN, come(greeting()), output(40), key(5, 1), come(update()), output())
        self.assertEqual(found[5], [26] + SENT[40:] + [4, 1, 0, 0, 0, 0, 0, 5] + asked(1, 4, 3))


class FullTest(unittest.TestCase):
    def test_just_65536(self):
        found = answered(BEGIN, come(greeting()), come(update() * UPDATES), key(7, 1), output())
        sent = SENT + asked(1, 4, 3) * UPDATES + [4, 1, 0, 0, 0, 0, 0, 7]
        self.assertEqual(len(sent), 65536)
        self.assertEqual(found, [[0], [1], [1], [0], [65536] + sent])

    def test_an_asking_that_ends_at_just_65536(self):
        found = answered(BEGIN, come(greeting()), key(7, 1), come(update() * UPDATES), output())
        sent = SENT + [4, 1, 0, 0, 0, 0, 0, 7] + asked(1, 4, 3) * UPDATES
        self.assertEqual(found, [[0], [1], [0], [1], [65536] + sent])

    def test_a_key_one_beyond(self):
        # 65519 wait, so the key fits; one asking more and 65529 wait, so that it would end at 65537.
        found = answered(BEGIN, come(greeting()), output(9), come(update() * UPDATES), key(7, 1), output(),
                         key(8, 0), output())
        sent = (SENT + asked(1, 4, 3) * UPDATES)[9:] + [4, 1, 0, 0, 0, 0, 0, 7]
        self.assertEqual(found[4:], [[0], [65527] + sent, [0], [8, 4, 0, 0, 0, 0, 0, 0, 8]])
        found = answered(BEGIN, come(greeting()), output(9), come(update() * UPDATES), come(update()), key(7, 1),
                         output(), key(8, 0), output())
        sent = (SENT + asked(1, 4, 3) * (UPDATES + 1))[9:]
        self.assertEqual(found[5:], [[0], [65529] + sent, [0], [8, 4, 0, 0, 0, 0, 0, 0, 8]])

    def test_an_asking_one_beyond(self):
        # 65522 wait: with 6 bytes fetched two more askings end at just 65536, with 5 at 65537.
        keys = [key(at, 0) for at in range(8)]
        behind = [byte for at in range(8) for byte in [4, 0, 0, 0, 0, 0, 0, at]]
        sent = SENT + behind + asked(1, 4, 3) * 6541
        self.assertEqual(65536 - len(sent), 14)
        for fetched, second in ((5, False), (6, True)):
            found = answered(BEGIN, come(greeting()), *keys, come(update() * 6541), output(fetched),
                             come(update() + update()), output())
            waiting = sent[fetched:] + asked(1, 4, 3) * (2 if second else 1)
            self.assertEqual(found[-1], [len(waiting)] + waiting)
            self.assertEqual(len(waiting), 65536 if second else 65527)

    def test_what_does_not_fit_is_dropped_for_good_and_the_rest_goes_on(self):
        found = answered(BEGIN, come(greeting()), come(update() * 6600), key(7, 1), output(65536), output(),
                         come(update()), output(), key(9, 1), output())
        sent = SENT + asked(1, 4, 3) * 6548 + [4, 1, 0, 0, 0, 0, 0, 7]
        self.assertEqual(found[2:6], [[1], [0], [65536] + sent, [0]])
        self.assertEqual(found[6:], [[1], [10] + asked(1, 4, 3), [0], [8, 4, 1, 0, 0, 0, 0, 0, 9]])

    def test_a_shorter_one_behind_may_still_fit(self):
        # 65528 wait: an asking of ten doesn't fit any more, a key of eight does.
        found = answered(BEGIN, come(greeting()), come(update() * 6549), key(7, 1), key(7, 0), output())
        sent = SENT + asked(1, 4, 3) * 6548 + [4, 1, 0, 0, 0, 0, 0, 7]
        self.assertEqual(found[2:], [[1], [0], [0], [65536] + sent])


if __name__ == "__main__":
    unittest.main()
