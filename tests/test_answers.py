"""answers: how calls are handed in and answers given back."""

import contextlib
import inspect
import io
import unittest

import conesails.cone
from conesails.cone import answers
from helper import GREATEST, KIND, LEAST, SAIL, TOP, apart, begin, like, rows

LINE = (LEAST + begin((1, 0), (3, 5)) + KIND + SAIL + LEAST + like((1, 0), (2, 5))
        + rows(1, [1, 2], [3]) + rows(5, [], []) + begin((0, 1), (1, 0)) + rows(1, [TOP, 0, 0, 1], [0, 0, 0, 0]) + KIND)
ANSWERED = [5, 2, 1, 0, 0, 1,
            1, 5,
            3, 5, 2, 3,
            7, 3, 1, 0, 1, 1, 3, 5,
            11, 4, 1, 0, 1, 1, 2, 3, 3, 5, 3, 2,
            1, 1,
            1, -3,
            1, -3,
            1, -4,
            1, -1,
            3, 5, 2, 3]


class Watched(list):
    """A list that takes no change, not for a while either."""

    def refuse(self, *given, **named):
        raise AssertionError("what was handed in is changed")

    append = clear = extend = insert = pop = remove = reverse = sort = refuse
    __setitem__ = __delitem__ = __iadd__ = __imul__ = refuse


class AnswersTest(unittest.TestCase):
    def test_interface(self):
        parameters = inspect.signature(conesails.cone.answers).parameters
        self.assertEqual(list(parameters), ["calls"])
        self.assertIs(parameters["calls"].default, inspect.Parameter.empty)
        self.assertEqual(answers(calls=[4]), [3, 1, 0, 0])

    def test_several_calls_in_one_list(self):
        self.assertEqual(answers(LINE), ANSWERED)

    def test_each_answer_has_how_many_before_it(self):
        parts = apart(answers(LINE))
        self.assertEqual(len(parts), 11)
        self.assertEqual([len(part) for part in parts], [5, 1, 3, 7, 11, 1, 1, 1, 1, 1, 3])

    def test_one_call(self):
        self.assertEqual(answers([2]), [5, 2, 1, 0, 0, 1])
        self.assertEqual(answers([3]), [5, 2, 1, 0, 0, 1])
        self.assertEqual(answers([4]), [3, 1, 0, 0])
        self.assertEqual(answers([1, 0, 0]), [1, -3])
        self.assertEqual(answers([5, 0, 0]), [1, -3])
        self.assertEqual(answers([1, 4, 1, 0, 0, 1, 4, 0, 0, 0, 0]), [1, 1])
        self.assertEqual(answers([5, 4, 1, 0, 0, 1, 4, 0, 0, 0, 0]), [1, 1])

    def test_rows_that_are_refused_are_passed_over(self):
        # What stands in these rows looks like calls.
        for call in (1, 5):
            for plus, minus in [([4] * 7, [2, 3, 4]), ([], [4, 4]), ([1, 5, 1], []), ([2] * 1024, [4] * 1024)]:
                self.assertEqual(answers(rows(call, plus, minus) + KIND), [1, -3, 3, 1, 0, 0])

    def test_sixty_calls(self):
        pair = begin(*GREATEST[0]) + LEAST
        answered = apart(answers(pair * 30))
        self.assertEqual(len(answered), 60)
        self.assertEqual(answered, apart(answers(pair)) * 30)

    def test_longest_list(self):
        line = rows(1, [TOP] * 1024, [TOP] * 1024) * 7 + rows(5, [0] * 800, [0] * 800) + KIND
        self.assertLessEqual(len(line), 16000)
        self.assertEqual(answers(line), [1, -3] * 8 + [3, 1, 0, 0])

    def test_what_is_handed_in_stays(self):
        line = list(LINE)
        answered = answers(line)
        self.assertEqual(line, LINE)
        answered.append(7)
        answered[0] = 7
        self.assertEqual(line, LINE)

    def test_what_is_handed_in_is_not_changed_for_a_while(self):
        self.assertEqual(answers(Watched(LINE)), ANSWERED)

    def test_a_second_time(self):
        first = answers(LINE)
        first.clear()
        self.assertEqual(answers(LINE), ANSWERED)
        self.assertEqual(answers(LINE), ANSWERED)

    def test_nothing_is_kept(self):
        answers(begin((1, 0), (3, 5)))
        self.assertEqual(answers(KIND), [3, 1, 0, 0])
        self.assertEqual(answers(LEAST), [5, 2, 1, 0, 0, 1])

    def test_whole_numbers_in_a_list(self):
        answered = answers(LINE)
        self.assertIs(type(answered), list)
        self.assertEqual({type(k) for k in answered}, {int})
        self.assertEqual({type(k) for k in answers(begin((1, 0), (1, 5)) + like((1, 0), (1, 5)))}, {int})

    def test_prints_nothing(self):
        out, err = io.StringIO(), io.StringIO()
        with contextlib.redirect_stdout(out), contextlib.redirect_stderr(err):
            answers(LINE)
        self.assertEqual(out.getvalue() + err.getvalue(), "")


if __name__ == "__main__":
    unittest.main()
