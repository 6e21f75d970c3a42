import unittest

from tests.helper import (
    BEGIN, ENDS, GREETING_SENT, GREYS, TOLD, answered, asked, come, cut, cut_text, greeting, grey, key, output, point,
    rectangle, row, sent_by_greeting, update,
)

FAR = greeting(5, 4, name=b"far") + GREYS + [2, 2] + cut_text(b"text") + update(rectangle(0, 0, 5, 1, 0, range(5)))
# One of each call but begin, and what a viewer answers to which nothing has come.
OTHERS = (come([]), output(), key(1, 1), point(1, 1, 1), row(0), cut(), TOLD)
NEW = [[0], [0], [-3], [-3], [-3], [0], [0] * 7]


class BeginTest(unittest.TestCase):
    def test_begin_answers_nought(self):
        self.assertEqual(answered(BEGIN), [[0]])

    def test_nothing_waits_at_the_beginning(self):
        self.assertEqual(answered(BEGIN, output()), [[0], [0]])

    def test_begin_again_is_a_viewer_to_which_nothing_has_come(self):
        far = come(greeting())
        found = answered(BEGIN, far, BEGIN, come([]), key(1, 1), far, output())
        sent = sent_by_greeting()
        self.assertEqual(found, [[0], [1], [0], [0], [-3], [1], [len(sent)] + sent])

    def test_begin_again_drops_what_waited(self):
        self.assertEqual(answered(BEGIN, come(greeting()), BEGIN, output()), [[0], [1], [0], [0]])

    def test_begin_again_drops_words_that_were_not_whole(self):
        found = answered(BEGIN, come(greeting()[:7]), BEGIN, come(greeting()))
        self.assertEqual(found, [[0], [0], [0], [1]])

    def test_begin_again_after_wrong(self):
        found = answered(BEGIN, come([0] * 12), come(greeting()), BEGIN, come(greeting()))
        self.assertEqual(found, [[0], [-11], [-11], [0], [1]])

    def test_begin_in_the_greeting(self):
        found = answered(BEGIN, come(greeting()[:18]), output(), BEGIN, come(greeting()))
        self.assertEqual(found, [[0], [0], [14] + GREETING_SENT, [0], [1]])

    def test_all_eight_calls_are_as_at_the_first_beginning(self):
        self.assertEqual(answered(BEGIN, *OTHERS), [[0]] + NEW)
        ends = [FAR, FAR + [0, 0, 0, 1], FAR + cut_text(b"other")[:-1], FAR[:20], FAR + [9]]
        for far in ends + [far for far, columns, rows in ENDS.values()]:
            found = answered(BEGIN, come(far), key(2, 0), point(3, 4, 5), BEGIN, *OTHERS, BEGIN, *OTHERS)
            self.assertEqual(found[4:], ([[0]] + NEW) * 2)

    def test_each_call_first_behind_begin(self):
        for call, answer in zip(OTHERS, NEW):
            self.assertEqual(answered(BEGIN, come(FAR), BEGIN, call)[2:], [[0], answer])

    def test_the_second_viewer_goes_its_own_way(self):
        other = greeting(3, 2, name=b"other") + update(rectangle(0, 0, 1, 1, 0, [4])) + [2]
        found = answered(BEGIN, come(FAR), BEGIN, come(other), row(0), row(1), row(2), cut(), TOLD, output())
        sent = sent_by_greeting(3, 2) + asked(1, 3, 2)
        self.assertEqual(found[3:8], [[1], [3, 0, 0, 0], [3, 0, 0, 0], [-3], [0]])
        self.assertEqual(found[8:], [[1, 3, 2, 1, 1, 0, 5], [len(sent)] + sent])

    def test_the_table_begins_anew_too(self):
        far = greeting(2, 1) + update(rectangle(0, 0, 2, 1, 0, [4, 5]))
        found = answered(BEGIN, come(far + GREYS), row(0), BEGIN, come(far), row(0))
        self.assertEqual([found[2], found[5]], [[2, grey(4), grey(5)], [2, 0, 0]])


if __name__ == "__main__":
    unittest.main()
