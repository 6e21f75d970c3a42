import contextlib
import io
import unittest

from screenviewer.viewer import answers
from tests.helper import (
    BEGIN, GREYS, TOLD, agree, answered, come, cut, cut_text, greeting, grey, key, output, point, rectangle, row,
    sent_by_greeting, update,
)

FAR = greeting() + update(rectangle(0, 0, 4, 3, 0, range(12)), rectangle(0, 0, 2, 2, 5, [2, 9])) + [2]
CALLS = [0, 1, len(FAR)] + FAR + [1, 0] + [3, 97, 1] + [3, 97, 5] + [2, -1] + [2, 12] + output()
# All eight calls, with all that each may answer.
EIGHT = (
    BEGIN, TOLD, row(0), cut(), come(FAR + GREYS + cut_text(b"text")), key(97, 1), key(97, 5), point(1, 2, 3),
    point(1, 2, 256), row(0), row(2, 3), row(3), row(1024), cut(2), cut(-1), TOLD, output(20), output(-1), come([9]),
    TOLD, row(1), cut(), point(1, 2, 3), key(97, 1), output(), BEGIN, TOLD, come([0] * 12), TOLD, row(0),
)
EIGHT_CALLS = [word for call in EIGHT for word in call]


class Watched(list):
    """A list that fails where anything would change it."""

    def refuse(self, *rest):
        raise AssertionError("the list handed in was changed")

    append = extend = insert = pop = remove = clear = sort = reverse = refuse
    __setitem__ = __delitem__ = __iadd__ = __imul__ = refuse


class AnswersTest(unittest.TestCase):
    def test_how_answers_stand(self):
        sent = sent_by_greeting()
        expected = [1, 0, 1, 1, 1, 1, 1, 0, 1, -2, 1, -2, 13, 12] + sent[:12]
        behind = sent[12:] + [3, 1, 0, 0, 0, 0, 0, 4, 0, 3] + [4, 1, 0, 0, 0, 0, 0, 97]
        self.assertEqual(answers(CALLS), expected + [len(behind) + 1, len(behind)] + behind)

    def test_how_answers_of_the_screen_stand(self):
        far = greeting(2, 1) + GREYS + cut_text([7, 8, 9]) + update(rectangle(0, 0, 2, 1, 0, [1, 2]))
        calls = come(far) + point(1, 2, 3) + row(0) + row(0, 1) + row(1) + cut(2) + cut(-1) + TOLD
        expected = [1, 0, 1, 1, 1, 0, 3, 2, grey(1), grey(2), 1, -1, 1, -3, 3, 2, 7, 8, 1, -2, 7, 1, 2, 1, 0, 1, 3, 0]
        self.assertEqual(answers([0] + calls), expected)
        self.assertEqual(answers([0] + come([0] * 12) + TOLD), [1, 0, 1, -11, 7, -11, 0, 0, 0, 0, 0, 0])

    def test_each_of_the_eight_calls(self):
        found = answered(*EIGHT)
        nothing = [0] * 7
        self.assertEqual(found[:9], [[0], nothing, [-3], [0], [1], [0], [-2], [0], [-2]])
        rows = [[4, grey(9), grey(9), grey(2), grey(3)], [-1], [-3], [-2]]
        self.assertEqual(found[9:16], rows + [[2, 116, 101], [-2], [1, 4, 3, 1, 1, 4, 0]])
        self.assertEqual([found[16][0], found[17], found[18]], [20, [-2], [-16]])
        self.assertEqual(found[19:22], [[-16, 4, 3, 1, 1, 4, 0], [4, grey(9), grey(9), grey(6), grey(7)],
                                        [4, 116, 101, 120, 116]])
        self.assertEqual(found[22:24] + found[25:], [[-3], [-3], [0], nothing, [-11], [-11] + [0] * 6, [-3]])
        sent = sent_by_greeting() + [3, 1, 0, 0, 0, 0, 0, 4, 0, 3] + [4, 1, 0, 0, 0, 0, 0, 97] + [5, 3, 0, 1, 0, 2]
        self.assertEqual(found[16][1:] + found[24][1:], sent)

    def test_begin_alone(self):
        self.assertEqual(answers([0]), [1, 0])
        self.assertEqual(answers([0, 0, 0]), [1, 0, 1, 0, 1, 0])

    def test_wrong_is_one_number(self):
        self.assertEqual(answers([0, 1, 12] + [0] * 12 + [1, 0]), [1, 0, 1, -11, 1, -11])

    def test_whole_numbers_in_a_list(self):
        for calls in (CALLS, EIGHT_CALLS):
            found = answers(calls)
            self.assertIs(type(found), list)
            self.assertEqual({type(number) for number in found}, {int})

    def test_the_list_is_the_same_afterwards(self):
        for calls in (CALLS, EIGHT_CALLS):
            handed = list(calls)
            answers(handed)
            self.assertEqual(handed, calls)

    def test_the_list_is_not_changed_for_a_while_either(self):
        for calls in (CALLS, EIGHT_CALLS):
            self.assertEqual(answers(Watched(calls)), answers(calls))

    def test_the_same_answer_twice(self):
        for calls in (list(CALLS), list(EIGHT_CALLS)):
            first = answers(calls)
            kept = list(first)
            self.assertEqual(answers(calls), kept)
            first.clear()
            self.assertEqual(answers(calls), kept)

    def test_nothing_is_kept_from_a_call_that_ended_wrong_or_half_way(self):
        for calls in (CALLS, EIGHT_CALLS):
            first = answers(calls)
            answers([0, 1, 12] + [0] * 12)
            answers([0, 1, 30] + FAR[:30])
            self.assertEqual(answers(calls), first)

    def test_nothing_is_printed(self):
        out, err = io.StringIO(), io.StringIO()
        with contextlib.redirect_stdout(out), contextlib.redirect_stderr(err):
            answers(CALLS)
            answers(EIGHT_CALLS)
        self.assertEqual((out.getvalue(), err.getvalue()), ("", ""))

    def test_as_long_as_may_be_without_deep_calls(self):
        for piece in ([2], update(), update(rectangle(0, 0, 0, 0, 0)), update(rectangle(0, 0, 0, 0, 5)),
                      [1, 0, 0, 0, 0, 0], [3, 0, 0, 0, 0, 0, 0, 0]):
            far = greeting() + piece * (30000 // len(piece))
            self.assertEqual(answers([0, 1, len(far)] + far), [1, 0, 1, 1])
        far = greeting(1024, 1024) + update(rectangle(0, 0, 1024, 1024, 5, [0] * 4096)) * 7
        self.assertEqual(answers([0, 1, len(far)] + far), [1, 0, 1, 1])

    def test_300_calls(self):
        self.assertEqual(answers([0] + [3, 1, 1] * 299), [1, 0] + [1, -3] * 299)
        self.assertEqual(answers([0] + TOLD * 299), [1, 0] + [7, 0, 0, 0, 0, 0, 0, 0] * 299)
        far = greeting(1024, 2) + GREYS + update(rectangle(0, 1, 1024, 1, 0, [at % 256 for at in range(1024)]))
        found = answered(BEGIN, come(far), *[row(1)] * 298)
        agree(self, found[2:], [[1024] + [grey(at % 256) for at in range(1024)]] * 298)

    def test_31000_numbers_in_300_calls(self):
        far = greeting(30, 10) + GREYS + update(rectangle(0, 0, 30, 10, 0, [at % 256 for at in range(300)])) * 90
        calls = [BEGIN]
        for place in range(0, len(far), 146):
            calls.append(come(far[place:place + 146]))
        calls += [point(1023, 1023, 255), row(9), cut(), TOLD] * 18
        calls += [output()] * (300 - len(calls))
        self.assertEqual(len(calls), 300)
        words = sum(len(call) for call in calls)
        self.assertTrue(30000 < words <= 31000, words)
        found = answered(*calls)
        self.assertEqual(found[-1], [0])
        line = [30] + [grey(at % 256) for at in range(270, 300)]
        at = calls.index(TOLD)
        self.assertEqual(found[at - 3:at + 1], [[0], line, [0], [1, 30, 10, 0, 90, 0, 0]])

    def test_copies_and_parts_of_the_largest_screen(self):
        rest = [0, 0, 0, 1, 7, 8, 3, 255, 0, 0, 0, 1, 4, 0]
        far = greeting(1024, 1024) + GREYS + update(rectangle(0, 0, 1024, 1024, 2, rest))
        far += update(*[rectangle(0, 0, 1023, 1024, 1, [0, 1, 0, 0])] * 100)
        found = answered(BEGIN, come(far), row(0), row(1023))
        line = [1024] + [grey(7)] * 923 + [grey(8)] * 101
        agree(self, found[2:], [line, line])


if __name__ == "__main__":
    unittest.main()
