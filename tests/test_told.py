import unittest

from screenviewer.session import Session
from screenviewer.viewer import tell
from tests.helper import (
    BEGIN, ENDS, PARTS_8, TOLD, answered, before_size, come, cut, cut_text, form, greeting, key, number, numbers,
    output, point, rectangle, row, sent_by_greeting, table, update,
)

NOTHING = [0, 0, 0, 0, 0, 0, 0]


def told_after(*pieces):
    return answered(BEGIN, *[come(piece) for piece in pieces], TOLD)[-1]


class StandingTest(unittest.TestCase):
    def test_at_the_beginning(self):
        self.assertEqual(answered(BEGIN, TOLD), [[0], NOTHING])

    def test_all_is_0_until_the_greeting_is_done(self):
        far = greeting(640, 480, name=b"far")
        for place in range(len(far)):
            self.assertEqual(told_after(far[:place]), NOTHING)
        self.assertEqual(told_after(far), [1, 640, 480, 0, 0, 0, 3])

    def test_after_each_wrong(self):
        for wrong, (far, columns, rows) in ENDS.items():
            name = 3 if rows else 0
            self.assertEqual(told_after(far), [-10 - wrong, columns, rows, 0, 0, 0, name])
            self.assertEqual(told_after(far, [2] * 9), [-10 - wrong, columns, rows, 0, 0, 0, name])

    def test_no_screen_after_any_wrong_of_5(self):
        sized = before_size() + numbers((4, 3))
        for far in (before_size() + numbers((0, 3)), before_size() + numbers((4, 1025)), sized + form(9),
                    sized + form(16), sized + form(8, 0, 1, (7, 7, 3), (0, 3, 7)), sized + form() + number(65537, 4)):
            self.assertEqual(told_after(far + [0] * 9), [-15, 0, 0, 0, 0, 0, 0])

    def test_six_numbers_as_they_stood_after_a_wrong(self):
        far = greeting(300, 200, name=b"a name") + [2, 2] + update() * 3 + cut_text(b"text!")
        for end, wrong in (([9], 6), ([1, 0, 1, 0, 0, 1], 6), (update(rectangle(0, 0, 301, 1, 0)), 7)):
            self.assertEqual(told_after(far, end + [2] + update()), [-10 - wrong, 300, 200, 2, 3, 5, 6])

    def test_it_changes_nothing(self):
        found = answered(BEGIN, TOLD, come(greeting()), TOLD, TOLD, output(), TOLD)
        stands = [1, 4, 3, 0, 0, 0, 0]
        self.assertEqual(found[3:], [stands, stands, [48] + sent_by_greeting(), stands])

    def test_in_the_list_that_is_given_back(self):
        found = answered(BEGIN, come([0] * 12), TOLD, TOLD)
        self.assertEqual(found, [[0], [-11], [-11] + [0] * 6, [-11] + [0] * 6])


class SizeTest(unittest.TestCase):
    def test_screens_at_the_edges(self):
        for columns in (1, 2, 255, 256, 1023, 1024):
            for rows in (1, 3, 1023, 1024):
                self.assertEqual(told_after(greeting(columns, rows)), [1, columns, rows, 0, 0, 0, 0])

    def test_names(self):
        for length in (0, 1, 255, 256, 30000):
            self.assertEqual(told_after(greeting(name=b"n" * length)), [1, 4, 3, 0, 0, 0, length])

    def test_a_name_of_65536(self):
        ahead = before_size() + numbers((4, 3)) + form() + number(65536, 4)
        pieces = [ahead, [65] * 30000, [66] * 30000, [67] * 5535]
        self.assertEqual(told_after(*pieces), NOTHING)
        self.assertEqual(told_after(*pieces, [68]), [1, 4, 3, 0, 0, 0, 65536])

    def test_cut_texts(self):
        self.assertEqual(told_after(greeting() + cut_text(b"first")), [1, 4, 3, 0, 0, 5, 0])
        self.assertEqual(told_after(greeting() + cut_text(b"first") + cut_text(b"x")), [1, 4, 3, 0, 0, 1, 0])
        self.assertEqual(told_after(greeting() + cut_text(b"first") + cut_text(b"")), [1, 4, 3, 0, 0, 0, 0])
        self.assertEqual(told_after(greeting() + cut_text(b"first") + cut_text(b"later")[:-1]), [1, 4, 3, 0, 0, 5, 0])


class CountTest(unittest.TestCase):
    def test_bells(self):
        self.assertEqual(told_after(greeting(), [2]), [1, 4, 3, 1, 0, 0, 0])
        self.assertEqual(told_after(greeting() + [2, 2], [2]), [1, 4, 3, 3, 0, 0, 0])
        self.assertEqual(told_after(greeting(), [2] * 30000), [1, 4, 3, 30000, 0, 0, 0])

    def test_twos_within_other_messages_are_no_bells(self):
        far = cut_text([2] * 9) + update(rectangle(0, 0, 4, 3, 0, [2] * 12)) + table(2, [(514, 514, 514)])
        self.assertEqual(told_after(greeting() + far), [1, 4, 3, 0, 1, 9, 0])

    def test_an_update_of_none_is_counted_at_once(self):
        self.assertEqual(told_after(greeting() + [0, 0, 0]), [1, 4, 3, 0, 0, 0, 0])
        self.assertEqual(told_after(greeting() + [0, 0, 0, 0]), [1, 4, 3, 0, 1, 0, 0])

    def test_an_update_that_s_not_all_there_is_not_counted_yet(self):
        rests = {0: [7] * 4, 1: numbers((1, 1)), 2: number(1, 4) + [7, 8] + numbers((0, 0, 1, 1)),
                 4: number(1, 4) + [7, 8, 0, 0, 1, 1], 5: [14, 7, 8, 1, 0, 0]}
        for coding, rest in rests.items():
            far = update(rectangle(0, 0, 1, 1, 0, [7]), rectangle(0, 0, 2, 2, coding, rest))
            for place in range(len(far)):
                self.assertEqual(told_after(greeting(), far[:place]), [1, 4, 3, 0, 0, 0, 0])
            self.assertEqual(told_after(greeting(), far), [1, 4, 3, 0, 1, 0, 0])

    def test_an_update_counts_once_whatever_it_holds(self):
        blank = rectangle(4, 3, 0, 0, 0)
        self.assertEqual(told_after(greeting() + update(*[blank] * 300)), [1, 4, 3, 0, 1, 0, 0])
        self.assertEqual(told_after(greeting() + [0, 0] + number(301, 2) + blank * 300), [1, 4, 3, 0, 0, 0, 0])
        self.assertEqual(told_after(greeting() + update(blank) * 30 + update() * 4), [1, 4, 3, 0, 34, 0, 0])

    def test_a_wrong_update_is_not_counted(self):
        far = update(rectangle(0, 0, 1, 1, 0, [7]), rectangle(0, 0, 1, 1, 9))
        self.assertEqual(told_after(greeting() + update() + far), [-17, 4, 3, 0, 1, 0, 0])

    def test_updates_are_counted_though_what_is_asked_does_not_fit(self):
        self.assertEqual(told_after(greeting() + update() * 7000), [1, 4, 3, 0, 7000, 0, 0])

    def test_other_calls_and_messages_count_nothing(self):
        far = greeting() + table(0, [(1, 2, 3)])
        found = answered(BEGIN, come(far), key(1, 1), point(1, 1, 1), row(0), cut(), TOLD)
        self.assertEqual(found[-1], [1, 4, 3, 0, 0, 0, 0])
        self.assertEqual(told_after(greeting(4, 3, PARTS_8), [1, 0, 0, 0, 0, 0]), [-16, 4, 3, 0, 0, 0, 0])

    def test_counts_go_round_at_two_to_the_31(self):
        session = Session()
        session.bells = 2147483646
        session.updates = 2147483647
        session.count_bell()
        self.assertEqual(tell(session), [0, 0, 0, 2147483647, 2147483647, 0, 0])
        session.count_bell()
        session.count_update()
        self.assertEqual(tell(session), NOTHING)


if __name__ == "__main__":
    unittest.main()
