import contextlib
import io
import unittest

from screenviewer.viewer import answers
from tests.helper import greeting, output, rectangle, sent_by_greeting, update

FAR = greeting() + update(rectangle(0, 0, 4, 3, 0, range(12)), rectangle(0, 0, 2, 2, 5, [2, 9])) + [2]
CALLS = [0, 1, len(FAR)] + FAR + [1, 0] + [3, 97, 1] + [3, 97, 5] + [2, -1] + [2, 12] + output()


class Watched(list):
    """A list that fails where anything would change it."""

    def refuse(self, *rest):
        raise AssertionError("the list handed in was changed")

    append = extend = insert = pop = remove = clear = sort = reverse = refuse
    __setitem__ = __delitem__ = __iadd__ = __imul__ = refuse


class AnswersTest(unittest.TestCase):
    def test_how_answers_stand(self):
        sent = sent_by_greeting()
        expected = [1, 0, 1, 1, 1, 1, 1, 0, 1, -2, 1, -2, 13, 12] + sent[:12]
        behind = sent[12:] + [3, 1, 0, 0, 0, 0, 0, 4, 0, 3] + [4, 1, 0, 0, 0, 0, 0, 97]
        self.assertEqual(answers(CALLS), expected + [len(behind) + 1, len(behind)] + behind)

    def test_begin_alone(self):
        self.assertEqual(answers([0]), [1, 0])
        self.assertEqual(answers([0, 0, 0]), [1, 0, 1, 0, 1, 0])

    def test_wrong_is_one_number(self):
        self.assertEqual(answers([0, 1, 12] + [0] * 12 + [1, 0]), [1, 0, 1, -11, 1, -11])

    def test_whole_numbers_in_a_list(self):
        found = answers(CALLS)
        self.assertIs(type(found), list)
        self.assertEqual({type(number) for number in found}, {int})

    def test_the_list_is_the_same_afterwards(self):
        calls = list(CALLS)
        answers(calls)
        self.assertEqual(calls, CALLS)

    def test_the_list_is_not_changed_for_a_while_either(self):
        self.assertEqual(answers(Watched(CALLS)), answers(CALLS))

    def test_the_same_answer_twice(self):
        calls = list(CALLS)
        first = answers(calls)
        kept = list(first)
        self.assertEqual(answers(calls), kept)
        first.clear()
        self.assertEqual(answers(calls), kept)

    def test_nothing_is_kept_from_a_call_that_ended_wrong_or_half_way(self):
        first = answers(CALLS)
        answers([0, 1, 12] + [0] * 12)
        answers([0, 1, 30] + FAR[:30])
        self.assertEqual(answers(CALLS), first)

    def test_nothing_is_printed(self):
        out, err = io.StringIO(), io.StringIO()
        with contextlib.redirect_stdout(out), contextlib.redirect_stderr(err):
            answers(CALLS)
        self.assertEqual((out.getvalue(), err.getvalue()), ("", ""))

    def test_as_long_as_may_be_without_deep_calls(self):
        for piece in ([2], update(), update(rectangle(0, 0, 0, 0, 0)), update(rectangle(0, 0, 0, 0, 5)),
                      [1, 0, 0, 0, 0, 0], [3, 0, 0, 0, 0, 0, 0, 0]):
            far = greeting() + piece * (30000 // len(piece))
            self.assertEqual(answers([0, 1, len(far)] + far), [1, 0, 1, 1])
        far = greeting(1024, 1024) + update(rectangle(0, 0, 1024, 1024, 5, [0] * 4096)) * 7
        self.assertEqual(answers([0, 1, len(far)] + far), [1, 0, 1, 1])

    def test_300_calls(self):
        self.assertEqual(answers([0] + [3, 1, 1] * 299), [1, 0] + [1, -3] * 299)


if __name__ == "__main__":
    unittest.main()
