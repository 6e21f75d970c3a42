import unittest

from tests.helper import BEGIN, GREETING_SENT, answered, come, greeting, key, output, sent_by_greeting


class BeginTest(unittest.TestCase):
    def test_begin_answers_nought(self):
        self.assertEqual(answered(BEGIN), [[0]])

    def test_nothing_waits_at_the_beginning(self):
        self.assertEqual(answered(BEGIN, output()), [[0], [0]])

    def test_begin_again_is_a_viewer_to_which_nothing_has_come(self):
        far = come(greeting())
        found = answered(BEGIN, far, BEGIN, come([]), key(1, 1), far, output())
        sent = sent_by_greeting()
        self.assertEqual(found, [[0], [1], [0], [0], [-3], [1], [len(sent)] + sent])

    def test_begin_again_drops_what_waited(self):
        self.assertEqual(answered(BEGIN, come(greeting()), BEGIN, output()), [[0], [1], [0], [0]])

    def test_begin_again_drops_words_that_were_not_whole(self):
        found = answered(BEGIN, come(greeting()[:7]), BEGIN, come(greeting()))
        self.assertEqual(found, [[0], [0], [0], [1]])

    def test_begin_again_after_wrong(self):
        found = answered(BEGIN, come([0] * 12), come(greeting()), BEGIN, come(greeting()))
        self.assertEqual(found, [[0], [-11], [-11], [0], [1]])

    def test_begin_in_the_greeting(self):
        found = answered(BEGIN, come(greeting()[:18]), output(), BEGIN, come(greeting()))
        self.assertEqual(found, [[0], [0], [14] + GREETING_SENT, [0], [1]])


if __name__ == "__main__":
    unittest.main()
