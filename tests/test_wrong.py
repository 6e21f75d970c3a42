import unittest

from tests.helper import (
    BEGIN, GREETING_SENT, PARTS_8, PARTS_16_LOW, VERSION, answered, before_size, come, cut_text, form, greeting,
    key, number, numbers, output, rectangle, sent_by_greeting, session_after, standings, table, update,
)

GREETED = greeting(20, 10)
SIZED = before_size() + numbers((4, 3))
FORMED = SIZED + form()
IN_UPDATE = GREETED + [0, 0, 0, 1]

# Each row: what is ahead, the words that show it, which wrong it is, and how it stands before.
WRONGS = (
    ([], list(b"RFB 003.007\n"), 1, 0),
    ([], list(b"RFB 003.008 "), 1, 0),
    ([], list(b"rFB 003.008\n"), 1, 0),
    ([], [0] * 12, 1, 0),
    (VERSION, [0], 2, 0),
    (VERSION + [1], [2], 3, 0),
    (VERSION + [3], [0, 2, 255], 3, 0),
    (VERSION + [255], [2] * 255, 3, 0),
    (VERSION + [1, 1], [0, 0, 0, 1], 4, 0),
    (VERSION + [1, 1], [1, 0, 0, 0], 4, 0),
    (VERSION + [1, 1], [0, 255, 0, 0], 4, 0),
    (before_size(), numbers((0, 1)), 5, 0),
    (before_size(), numbers((1, 0)), 5, 0),
    (before_size(), numbers((1025, 1)), 5, 0),
    (before_size(), numbers((1, 1025)), 5, 0),
    (before_size(), numbers((65535, 65535)), 5, 0),
    (SIZED, form(24, 0, 1, (7, 7, 7), (0, 0, 0)), 5, 0),
    (SIZED, form(16), 5, 0),
    (SIZED, form(32, 0, 1, (255, 255, 254), (0, 0, 0)), 5, 0),
    (SIZED, form(32, 0, 1, (255, 255, 255), (25, 0, 0)), 5, 0),
    (FORMED, number(65537, 4), 5, 0),
    (FORMED, number(4294967295, 4), 5, 0),
    (FORMED, number(16777216, 4), 5, 0),
    (GREETED, [4], 6, 1),
    (GREETED, [255], 6, 1),
    (greeting(4, 3, PARTS_8), table(0, [(1, 2, 3)])[:6], 6, 1),
    (greeting(4, 3, PARTS_8), table(0, []), 6, 1),
    (GREETED, [1, 0] + numbers((0, 257)), 6, 1),
    (GREETED, [1, 0] + numbers((256, 1)), 6, 1),
    (GREETED, [1, 0] + numbers((255, 2)), 6, 1),
    (GREETED, [1, 0] + numbers((257, 0)), 6, 1),
    (GREETED, [1, 0] + numbers((65535, 65535)), 6, 1),
    (GREETED, [3, 0, 0, 0] + number(65537, 4), 6, 1),
    (GREETED, [3, 0, 0, 0] + number(4294967295, 4), 6, 1),
    (GREETED, [3, 0, 0, 0] + number(16777216, 4), 6, 1),
    (IN_UPDATE, rectangle(0, 0, 21, 1, 0), 7, 1),
    (IN_UPDATE, rectangle(0, 0, 1, 11, 1), 7, 1),
    (IN_UPDATE, rectangle(1, 0, 20, 10, 2), 7, 1),
    (IN_UPDATE, rectangle(0, 1, 20, 10, 4), 7, 1),
    (IN_UPDATE, rectangle(21, 0, 0, 0, 5), 7, 1),
    (IN_UPDATE, rectangle(0, 11, 0, 0, 5), 7, 1),
    (IN_UPDATE, rectangle(65535, 65535, 65535, 65535, 0), 7, 1),
    (IN_UPDATE, rectangle(0, 0, 1, 1, 3), 7, 1),
    (IN_UPDATE, rectangle(0, 0, 1, 1, 6), 7, 1),
    (IN_UPDATE, rectangle(0, 0, 1, 1, 16), 7, 1),
    (IN_UPDATE, rectangle(0, 0, 0, 0, 256), 7, 1),
    (IN_UPDATE, rectangle(0, 0, 1, 1, 16777216), 7, 1),
    (IN_UPDATE, rectangle(0, 0, 1, 1, 4294967295), 7, 1),
    (IN_UPDATE + rectangle(0, 0, 5, 5, 1), numbers((16, 0)), 7, 1),
    (IN_UPDATE + rectangle(0, 0, 5, 5, 1), numbers((0, 6)), 7, 1),
    (IN_UPDATE + rectangle(0, 0, 0, 0, 1), numbers((21, 0)), 7, 1),
    (IN_UPDATE + rectangle(0, 0, 5, 5, 1), numbers((65535, 0)), 7, 1),
    (IN_UPDATE + rectangle(0, 0, 5, 5, 1), numbers((0, 256)), 7, 1),
    (IN_UPDATE + rectangle(0, 0, 5, 5, 2), number(65536, 4), 7, 1),
    (IN_UPDATE + rectangle(0, 0, 5, 5, 4), number(65536, 4), 7, 1),
    (IN_UPDATE + rectangle(0, 0, 5, 5, 2), number(4294967295, 4), 7, 1),
    (IN_UPDATE + rectangle(0, 0, 5, 5, 2), number(16777216, 4), 7, 1),
    (IN_UPDATE + rectangle(0, 0, 5, 5, 4), number(16777216, 4), 7, 1),
    (IN_UPDATE + rectangle(2, 2, 5, 4, 2) + number(1, 4) + [9], [8] + numbers((0, 0, 6, 1)), 7, 1),
    (IN_UPDATE + rectangle(2, 2, 5, 4, 2) + number(1, 4) + [9], [8] + numbers((0, 0, 1, 5)), 7, 1),
    (IN_UPDATE + rectangle(2, 2, 5, 4, 2) + number(1, 4) + [9], [8] + numbers((5, 0, 1, 1)), 7, 1),
    (IN_UPDATE + rectangle(2, 2, 5, 4, 2) + number(1, 4) + [9], [8] + numbers((0, 4, 1, 1)), 7, 1),
    (IN_UPDATE + rectangle(2, 2, 5, 4, 2) + number(1, 4) + [9], [8] + numbers((6, 0, 0, 0)), 7, 1),
    (IN_UPDATE + rectangle(2, 2, 5, 4, 2) + number(1, 4) + [9], [8] + numbers((65535, 0, 1, 1)), 7, 1),
    (IN_UPDATE + rectangle(2, 2, 5, 4, 4) + number(1, 4) + [9], [8, 0, 0, 6, 1], 7, 1),
    (IN_UPDATE + rectangle(2, 2, 5, 4, 4) + number(1, 4) + [9], [8, 0, 0, 1, 5], 7, 1),
    (IN_UPDATE + rectangle(2, 2, 5, 4, 4) + number(1, 4) + [9], [8, 5, 0, 1, 1], 7, 1),
    (IN_UPDATE + rectangle(2, 2, 5, 4, 4) + number(1, 4) + [9], [8, 0, 4, 1, 1], 7, 1),
    (IN_UPDATE + rectangle(2, 2, 5, 4, 4) + number(1, 4) + [9], [8, 255, 255, 255, 255], 7, 1),
    (IN_UPDATE + rectangle(0, 0, 20, 10, 5) + [8, 1], [0xf0, 0x10], 7, 1),
    (IN_UPDATE + rectangle(0, 0, 20, 10, 5) + [8, 1], [0x00, 0x0a], 7, 1),
    (IN_UPDATE + rectangle(0, 0, 20, 10, 5) + [8, 1], [0x0a, 0x00], 7, 1),
    (IN_UPDATE + rectangle(0, 0, 20, 10, 5) + [0, 8, 1], [0x40, 0x00], 7, 1),
    (IN_UPDATE + rectangle(0, 0, 20, 10, 5) + [0, 8, 1], [0x00, 0x40], 7, 1),
    (IN_UPDATE + rectangle(0, 0, 20, 10, 5) + [24, 2, 1, 0, 0], [7, 0x09, 0x01], 7, 1),
)

ALL_SORTS = update(rectangle(0, 0, 1, 1, 0, [7])) + [2] + cut_text(b"abc") + table(0, [(1, 2, 3)]) + greeting()


class WrongTest(unittest.TestCase):
    def test_just_when_its_words_are_whole(self):
        for ahead, words, wrong, before in WRONGS:
            with self.subTest(words=words, wrong=wrong):
                found = standings(ahead, words)
                self.assertEqual(found, [before] * (len(words) - 1) + [-10 - wrong])

    def test_in_one_piece(self):
        for ahead, words, wrong, before in WRONGS:
            with self.subTest(words=words, wrong=wrong):
                self.assertEqual(answered(BEGIN, come(ahead + words)), [[0], [-10 - wrong]])
                self.assertEqual(answered(BEGIN, come(ahead), come(words)), [[0], [before], [-10 - wrong]])

    def test_it_stays_until_begin(self):
        for ahead, words, wrong, before in WRONGS:
            with self.subTest(words=words, wrong=wrong):
                found = answered(
                    BEGIN, come(ahead + words + ALL_SORTS), come([]), come(ALL_SORTS), come(greeting()), BEGIN,
                    come([]), come(greeting()),
                )
                self.assertEqual(found, [[0]] + [[-10 - wrong]] * 4 + [[0], [0], [1]])

    def test_all_that_comes_then_is_dropped(self):
        for ahead, words, wrong, before in WRONGS:
            with self.subTest(words=words, wrong=wrong):
                held = session_after(ahead)
                after = session_after(ahead, words + ALL_SORTS, ALL_SORTS)
                for name in ("waiting", "screen", "table", "bells", "updates", "cut_text", "name", "columns", "rows"):
                    self.assertEqual(vars(held)[name], vars(after)[name])

    def test_what_waited_can_still_be_fetched(self):
        found = answered(BEGIN, come(greeting() + [9]), output(14), output(), key(1, 1), output())
        sent = sent_by_greeting()
        self.assertEqual(found, [[0], [-16], [14] + sent[:14], [34] + sent[14:], [-3], [0]])

    def test_nothing_is_sent_by_wrong_words(self):
        cases = ((0, list(b"RFB 003.007\n")), (12, VERSION + [0]), (12, VERSION + [1, 2]),
                 (13, VERSION + [1, 1, 0, 0, 0, 1]), (14, before_size() + numbers((0, 0))))
        for many, far in cases:
            self.assertEqual(answered(BEGIN, come(far), output())[2], [many] + GREETING_SENT[:many])

    def test_a_wrong_rectangle_leaves_the_screen_as_it_was(self):
        far = greeting(4, 3) + update(rectangle(0, 0, 4, 3, 0, range(1, 13)))
        shown = [[1, 2, 3, 4], [5, 6, 7, 8], [9, 10, 11, 12]]
        wrong = (
            rectangle(0, 0, 5, 1, 0, [9] * 5),
            rectangle(0, 0, 4, 3, 1, numbers((1, 0))),
            rectangle(0, 0, 4, 3, 2, number(2, 4) + [50, 51] + numbers((0, 0, 1, 1)) + [52] + numbers((4, 0, 1, 1))),
            rectangle(0, 0, 4, 3, 4, number(2, 4) + [50, 51, 0, 0, 1, 1, 52, 0, 3, 1, 1]),
            rectangle(0, 0, 4, 3, 5, [14, 60, 61, 2, 0, 0, 0x40, 0]),
        )
        for words in wrong:
            session = session_after(far, update(words))
            self.assertEqual((session.standing(), session.screen, session.updates), (-17, shown, 1))

    def test_rectangles_done_ahead_of_a_wrong_one_stay(self):
        session = session_after(greeting(2, 1) + update(rectangle(1, 0, 1, 1, 0, [5]), rectangle(2, 0, 1, 1, 0, [6])))
        self.assertEqual((session.standing(), session.screen, session.updates), (-17, [[0, 5]], 0))

    def test_a_wrong_update_is_not_asked_for_again(self):
        found = answered(BEGIN, come(greeting(2, 1)), output(), come(update(rectangle(0, 0, 3, 1, 0))), output())
        self.assertEqual(found[3:], [[-17], [0]])

    def test_sixteen_bits_show_wrong_parts_too(self):
        ahead = greeting(20, 10, PARTS_16_LOW) + [0, 0, 0, 1] + rectangle(0, 0, 3, 3, 2) + number(1, 4) + [1, 2]
        words = [3, 4] + numbers((0, 0, 4, 1))
        self.assertEqual(standings(ahead, words), [1] * 9 + [-17])
        ahead = greeting(20, 10, PARTS_16_LOW) + [0, 0, 0, 1] + rectangle(0, 0, 3, 3, 5) + [24, 1]
        self.assertEqual(standings(ahead, [3, 4, 0, 0x30]), [1, 1, 1, -17])


if __name__ == "__main__":
    unittest.main()
