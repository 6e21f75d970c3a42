import unittest

from tests.helper import (
    BEGIN, CODINGS_SENT, FORMS, GREETING_SENT, VERSION, answered, asked, before_size, byte_by_byte, come, form,
    greeting, number, numbers, output, sent_by_greeting, session_after,
)


class GreetingTest(unittest.TestCase):
    def test_in_one_piece(self):
        sent = sent_by_greeting(640, 480)
        found = answered(BEGIN, come(greeting(640, 480, name=b"far")), output())
        self.assertEqual(found, [[0], [1], [48] + sent])

    def test_byte_by_byte(self):
        far = greeting(640, 480, name=b"far")
        found = answered(BEGIN, *[come(piece) for piece in byte_by_byte(far)], output())
        self.assertEqual(found[1:-1], [[0]] * (len(far) - 1) + [[1]])
        self.assertEqual(found[-1], [48] + sent_by_greeting(640, 480))

    def test_what_is_sent_and_just_when(self):
        sent_at = {12: VERSION, 14: [1], 18: [1], 45: CODINGS_SENT + asked(0, 640, 480)}
        far = greeting(640, 480, name=b"far")
        calls = [BEGIN]
        for byte in far:
            calls += [come([byte]), output()]
        found = answered(*calls)
        for place in range(1, len(far) + 1):
            sent = sent_at.get(place, [])
            self.assertEqual(found[2 * place], [len(sent)] + sent)

    def test_several_ways(self):
        rest = greeting()[14:]
        for ways in ([1], [2, 1], [1, 2], [19, 2, 1, 16], [0, 1], [1, 1], [2] * 254 + [1]):
            found = answered(BEGIN, come(VERSION + [len(ways)]), come(ways[:-1]), come(ways[-1:]), output(), come(rest))
            self.assertEqual(found, [[0], [0], [0], [0], [13] + VERSION + [1], [1]])

    def test_the_way_is_sent_only_when_all_are_there(self):
        found = answered(BEGIN, come(VERSION + [3, 1, 2]), output(), come([5]), output())
        self.assertEqual(found, [[0], [0], [12] + VERSION, [0], [1, 1]])

    def test_sides_at_the_edges(self):
        for columns in (1, 2, 1023, 1024):
            for rows in (1, 1023, 1024):
                found = answered(BEGIN, come(greeting(columns, rows)), output())
                self.assertEqual(found[1:], [[1], [48] + sent_by_greeting(columns, rows)])

    def test_a_screen_of_noughts(self):
        for far_form in FORMS:
            session = session_after(greeting(5, 2, far_form))
            self.assertEqual((session.columns, session.rows), (5, 2))
            self.assertEqual(session.screen, [[0] * 5] * 2)
            self.assertEqual(session.table, [(0, 0, 0)] * 256)
            self.assertEqual((session.bells, session.updates, session.cut_text), (0, 0, []))

    def test_no_screen_before_the_name_is_whole(self):
        session = session_after(greeting(5, 2, name=b"far")[:-1])
        self.assertEqual((session.columns, session.rows, session.screen, session.name), (0, 0, [], []))
        self.assertEqual(session.standing(), 0)

    def test_a_name_of_no_length_is_done_at_once(self):
        far = greeting()
        self.assertEqual(answered(BEGIN, come(far[:-1]), come(far[-1:])), [[0], [0], [1]])

    def test_the_name_is_kept(self):
        self.assertEqual(session_after(greeting(name=b"a far screen")).name, list(b"a far screen"))

    def test_a_name_of_65536(self):
        far = before_size() + numbers((4, 3)) + form() + number(65536, 4)
        session = session_after(far, [65] * 30000, [66] * 30000, [67] * 5535)
        self.assertEqual(session.standing(), 0)
        session = session_after(far, [65] * 30000, [66] * 30000, [67] * 5536)
        self.assertEqual(session.standing(), 1)
        self.assertEqual(session.name, [65] * 30000 + [66] * 30000 + [67] * 5536)

    def test_what_comes_behind_the_greeting_in_the_same_piece(self):
        session = session_after(greeting(name=b"far") + [2, 2])
        self.assertEqual((session.standing(), session.bells), (1, 2))

    def test_bytes_are_refused_beyond_65536(self):
        self.assertEqual(answered(BEGIN, come([0] * 65537), come(greeting())), [[0], [-2], [1]])
        self.assertEqual(answered(BEGIN, come(greeting()), come([2] * 65536)), [[0], [1], [1]])

    def test_sent_in_the_greeting(self):
        self.assertEqual(GREETING_SENT, list(b"RFB 003.008\n\x01\x01"))


if __name__ == "__main__":
    unittest.main()
