"""The same bytes in other pieces lead to the same."""

import unittest

from tests.helper import (
    BEGIN, FORMS, PARTS_16_LOW, TOLD, answered, byte_by_byte, come, cut, cut_text, greeting, number, numbers, output,
    pixels, rectangle, row, table, update,
)

CALLS_BEHIND = [row(0), row(1), row(2), cut(), TOLD, output()]


def far_bytes(far_form):
    """Each kind and each coding, few enough bytes to come one a call."""
    size = far_form[0] // 8
    some = list(range(30, 30 + 4 * size))
    words = greeting(17, 2, far_form, b"nm") + [2]
    words += [] if far_form[3] else table(30, [(258, 772, 65535), (65535, 0, 1024)])
    words += update(rectangle(1, 0, 2, 2, 0, some), rectangle(2, 1, 2, 1, 1, numbers((1, 0))))
    words += cut_text([5, 6])
    words += update(rectangle(4, 0, 3, 2, 2, number(1, 4) + some[:2 * size] + numbers((1, 1, 2, 1))))
    words += update() + update(rectangle(7, 0, 2, 2, 4, number(1, 4) + some[size:3 * size] + [0, 1, 1, 1]))
    tiles = [30] + some[:2 * size] + [1] + some[size:2 * size] + [0x20, 0x10] + [8, 1, 0, 0]
    words += update(rectangle(0, 1, 17, 1, 5, tiles))
    return words + cut_text(range(7)) + [2]


class PiecesTest(unittest.TestCase):
    def after(self, *pieces):
        calls = [BEGIN] + [come(piece) for piece in pieces] + CALLS_BEHIND
        self.assertLessEqual(len(calls), 300)
        return answered(*calls)[-len(CALLS_BEHIND):]

    def check_every_cut(self, far, whole):
        for place in range(len(far) + 1):
            self.assertEqual(self.after(far[:place], far[place:]), whole)

    def test_cut_at_every_place_and_byte_by_byte(self):
        for far_form in FORMS:
            far = far_bytes(far_form)
            whole = self.after(far)
            self.assertEqual(whole[4], [1, 17, 2, 2, 5, 7, 2])
            self.assertEqual(whole[2:4], [[-3], [7, 0, 1, 2, 3, 4, 5, 6]])
            self.assertGreater(len(set(whole[0])), 2)
            self.check_every_cut(far, whole)
            self.assertEqual(self.after(*byte_by_byte(far)), whole)
            self.assertEqual(self.after([], *[far[at:at + 7] for at in range(0, len(far), 7)], []), whole)

    def test_far_bytes_that_end_wrong(self):
        for end in ([7], cut_text([1])[:4] + [255] * 4,
                    update(rectangle(0, 0, 1, 1, 0, [1]), rectangle(0, 0, 18, 1, 0)),
                    update(rectangle(0, 0, 17, 2, 5, [2, 9, 10, 8, 1, 0, 0x10]))):
            far = far_bytes(FORMS[0]) + end + [2] + update() + cut_text([1])
            whole = self.after(far)
            self.assertLess(whole[4][0], -15)
            self.assertEqual(whole[4][1:], [17, 2, 2, 5, 7, 2])
            self.check_every_cut(far, whole)
            self.assertEqual(self.after(*byte_by_byte(far)), whole)

    def test_far_bytes_that_end_half_way(self):
        far = far_bytes(PARTS_16_LOW) + update(rectangle(0, 0, 2, 2, 0, pixels([1, 2, 3, 4], PARTS_16_LOW)))
        for end in range(len(far) - 8, len(far)):
            self.assertEqual(self.after(*byte_by_byte(far[:end])), self.after(far[:end]))


if __name__ == "__main__":
    unittest.main()
