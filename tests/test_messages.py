import unittest

from tests.helper import (
    BEGIN, PARTS_8, answered, asked, byte_by_byte, come, cut_text, greeting, number, numbers, output, rectangle,
    session_after, standings, table, update,
)

NOUGHT = (0, 0, 0)


class TableTest(unittest.TestCase):
    def test_colours_are_kept(self):
        session = session_after(greeting() + table(3, [(1, 2, 3), (65535, 256, 255)]) + [2])
        self.assertEqual(session.table, [NOUGHT] * 3 + [(1, 2, 3), (65535, 256, 255)] + [NOUGHT] * 251)
        self.assertEqual((session.standing(), session.bells), (1, 1))

    def test_later_ones_cover_earlier_ones_alone(self):
        session = session_after(greeting() + table(0, [(1, 1, 1)] * 3) + table(1, [(2, 2, 2)]))
        self.assertEqual(session.table[:4], [(1, 1, 1), (2, 2, 2), (1, 1, 1), NOUGHT])

    def test_within_256_at_the_edge(self):
        for first, many in ((0, 256), (255, 1), (1, 255), (256, 0), (0, 0)):
            colours = [(at, at + 1, at + 2) for at in range(many)]
            session = session_after(greeting() + table(first, colours) + [2])
            self.assertEqual((session.standing(), session.bells), (1, 1))
            self.assertEqual(session.table, [NOUGHT] * first + colours + [NOUGHT] * (256 - first - many))

    def test_one_beyond_256(self):
        for first, many in ((0, 257), (255, 2), (1, 256), (256, 1), (257, 0)):
            found = standings(greeting(), [1, 0] + numbers((first, many)))
            self.assertEqual(found, [1] * 5 + [-16])

    def test_by_parts_it_s_wrong(self):
        self.assertEqual(standings(greeting(4, 3, PARTS_8), [1, 0, 0, 0, 0, 1]), [1] * 5 + [-16])
        self.assertEqual(standings(greeting(4, 3, PARTS_8), [1, 0, 0, 0, 0, 0]), [1] * 5 + [-16])

    def test_nothing_is_sent(self):
        found = answered(BEGIN, come(greeting()), output(), come(table(0, [(1, 2, 3)])), output())
        self.assertEqual(found[3:], [[1], [0]])

    def test_pixels_stay(self):
        far = greeting(2, 1) + update(rectangle(0, 0, 2, 1, 0, [5, 6])) + table(5, [(1, 2, 3)])
        self.assertEqual(session_after(far).screen, [[5, 6]])


class BellTest(unittest.TestCase):
    def test_bells_are_counted(self):
        self.assertEqual(session_after(greeting(), [2], [2, 2]).bells, 3)

    def test_counts_go_round_at_two_to_the_31(self):
        session = session_after(greeting())
        session.bells = 2147483647
        session.updates = 2147483647
        session.count_bell()
        session.count_update()
        self.assertEqual((session.bells, session.updates), (0, 0))


class CutTextTest(unittest.TestCase):
    def test_the_last_one_is_kept(self):
        session = session_after(greeting() + cut_text(b"first, longer") + cut_text(b"last") + [2])
        self.assertEqual((session.cut_text, session.bells), (list(b"last"), 1))

    def test_of_no_length(self):
        session = session_after(greeting() + cut_text(b"first") + cut_text(b"") + [2])
        self.assertEqual((session.cut_text, session.bells), ([], 1))

    def test_it_s_there_when_it_s_whole(self):
        far = cut_text(b"last")
        session = session_after(greeting() + cut_text(b"first"), far[:-1])
        self.assertEqual(session.cut_text, list(b"first"))
        session = session_after(greeting() + cut_text(b"first"), *byte_by_byte(far))
        self.assertEqual(session.cut_text, list(b"last"))

    def test_of_65536_and_one_beyond(self):
        text = [at % 251 for at in range(65536)]
        far = greeting() + [3, 0, 0, 0]
        session = session_after(far + number(65536, 4), text[:30000], text[30000:60000], text[60000:] + [2])
        self.assertEqual((session.standing(), session.cut_text, session.bells), (1, text, 1))
        self.assertEqual(standings(far, number(65537, 4)), [1, 1, 1, -16])


class SeveralTest(unittest.TestCase):
    def setUp(self):
        self.far = [2] + update(rectangle(0, 0, 2, 1, 0, [1, 2]), rectangle(1, 1, 1, 1, 5, [2, 3]))
        self.far += table(7, [(1, 2, 3)]) + cut_text(b"text") + update() + [2, 2]
        self.far += update(rectangle(0, 1, 1, 1, 1, numbers((1, 0))))

    def check(self, session):
        self.assertEqual(session.standing(), 1)
        self.assertEqual(session.screen, [[1, 2], [2, 3]])
        self.assertEqual((session.table[7], session.cut_text), ((1, 2, 3), list(b"text")))
        self.assertEqual((session.bells, session.updates), (3, 3))
        self.assertEqual(session.waiting[48:], asked(1, 2, 2) * 3)

    def test_several_in_one_piece(self):
        self.check(session_after(greeting(2, 2) + self.far))

    def test_one_over_many_pieces(self):
        self.check(session_after(greeting(2, 2), *byte_by_byte(self.far)))

    def test_cut_into_two_anywhere(self):
        far = greeting(2, 2) + self.far
        for cut in range(len(far) + 1):
            self.check(session_after(far[:cut], far[cut:]))

    def test_empty_pieces_among_them(self):
        pieces = [[]]
        for byte in greeting(2, 2) + self.far:
            pieces += [[byte], []]
        self.check(session_after(*pieces))

    def test_the_empty_piece_tells_how_it_stands(self):
        found = answered(BEGIN, come([]), come(greeting()), come([]), come([9]), come([]))
        self.assertEqual(found, [[0], [0], [1], [1], [-16], [-16]])


if __name__ == "__main__":
    unittest.main()
