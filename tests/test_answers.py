"""answers: how calls are handed in and answers given back."""

import contextlib
import inspect
import io
import unittest

import conesails.cone
from conesails.cone import answers
from helper import DUAL, GREATEST, KIND, LEAST, SAIL, TOP, apart, ask, begin, like, rows, simplest, told, way

LINE = (LEAST + begin((1, 0), (3, 5)) + KIND + SAIL + LEAST + like((1, 0), (2, 5))
        + rows(1, [1, 2], [3]) + rows(5, [], []) + begin((0, 1), (1, 0)) + rows(1, [TOP, 0, 0, 1], [0, 0, 0, 0]) + KIND)
ANSWERED = [5, 2, 1, 0, 0, 1,
            1, 5,
            3, 5, 2, 3,
            7, 3, 1, 0, 1, 1, 3, 5,
            11, 4, 1, 0, 1, 1, 2, 3, 3, 5, 3, 2,
            1, 1,
            1, -3,
            1, -3,
            1, -4,
            1, -1,
            3, 5, 2, 3]

# Of the nine calls each, all about the cone from 1 0 to 3 5, and what the document asks.
NINE = [(begin((1, 0), (3, 5)), [5]),
        (LEAST, [4, 1, 0, 1, 1, 2, 3, 3, 5, 3, 2]),
        (SAIL, [3, 1, 0, 1, 1, 3, 5]),
        (KIND, [5, 2, 3]),
        (like((1, 0), (2, 5)), [1]),
        (DUAL, [4, 5, -3, 2, -1, 1, 0, 0, 1, 3, 2]),
        (told((9, 10)), [1, 1, 7, 1]),
        (simplest(1, 3, 1, 2), [2, 5, 3, 0, 0, 1]),
        (way(3, 7), [4, 0, 0, 1, 1])]
# Each refusal, and a point beside the cone; none of these changes the cone.
REFUSED = [(rows(1, [], []), [-3]), (begin((41, 1), (0, 1)), [-1]), (begin((2, 0), (0, 1)), [-4]),
           (rows(5, [1], [2, 3]), [-3]), (like((1, 0), (0, 41)), [-1]), (like((0, 1), (1, 0)), [-4]),
           (rows(7, [9, 10], [0]), [-3]), (told((1601, 0)), [-1]), (told((-1, 0)), [0]),
           (simplest(1, 0, 1, 1), [-1]), (simplest(1, 1, 1, 2), [-4]), (way(0, TOP), [-1])]


class Watched(list):
    """A list that takes no change, not for a while either."""

    def refuse(self, *given, **named):
        raise AssertionError("what was handed in is changed")

    append = clear = extend = insert = pop = remove = reverse = sort = refuse
    __setitem__ = __delitem__ = __iadd__ = __imul__ = refuse


class AnswersTest(unittest.TestCase):
    def test_interface(self):
        parameters = inspect.signature(conesails.cone.answers).parameters
        self.assertEqual(list(parameters), ["calls"])
        self.assertIs(parameters["calls"].default, inspect.Parameter.empty)
        self.assertEqual(answers(calls=[4]), [3, 1, 0, 0])

    def test_several_calls_in_one_list(self):
        self.assertEqual(answers(LINE), ANSWERED)

    def test_each_answer_has_how_many_before_it(self):
        parts = apart(answers(LINE))
        self.assertEqual(len(parts), 11)
        self.assertEqual([len(part) for part in parts], [5, 1, 3, 7, 11, 1, 1, 1, 1, 1, 3])

    def test_one_call(self):
        self.assertEqual(answers([2]), [5, 2, 1, 0, 0, 1])
        self.assertEqual(answers([3]), [5, 2, 1, 0, 0, 1])
        self.assertEqual(answers([4]), [3, 1, 0, 0])
        self.assertEqual(answers([1, 0, 0]), [1, -3])
        self.assertEqual(answers([5, 0, 0]), [1, -3])
        self.assertEqual(answers([1, 4, 1, 0, 0, 1, 4, 0, 0, 0, 0]), [1, 1])
        self.assertEqual(answers([5, 4, 1, 0, 0, 1, 4, 0, 0, 0, 0]), [1, 1])

    def test_rows_that_are_refused_are_passed_over(self):
        # What stands in these rows looks like calls.
        for call in (1, 5, 7):
            for plus, minus in [([4] * 7, [2, 3, 4]), ([], [4, 4]), ([1, 5, 1], []), ([2] * 1024, [4] * 1024)]:
                self.assertEqual(answers(rows(call, plus, minus) + KIND), [1, -3, 3, 1, 0, 0])

    def test_sixty_calls(self):
        pair = begin(*GREATEST[0]) + LEAST
        answered = apart(answers(pair * 30))
        self.assertEqual(len(answered), 60)
        self.assertEqual(answered, apart(answers(pair)) * 30)

    def test_longest_list(self):
        line = rows(1, [TOP] * 1024, [TOP] * 1024) * 7 + rows(5, [0] * 800, [0] * 800) + KIND
        self.assertLessEqual(len(line), 16000)
        self.assertEqual(answers(line), [1, -3] * 8 + [3, 1, 0, 0])

    def both(self, pairs):
        """That the line of these calls answers as due."""
        line = [k for call, _ in pairs for k in call]
        due = [k for _, answer in pairs for k in [len(answer)] + answer]
        self.assertLessEqual(len(pairs), 60)
        self.assertEqual(answers(line), due)
        self.assertEqual(answers(Watched(line)), due)
        self.assertEqual(answers(line), due)

    def test_all_nine(self):
        self.both(NINE)
        self.both(NINE * 6 + NINE[:6])
        self.both(NINE[:1] + NINE[:0:-1])

    def test_any_two_behind_one_another(self):
        for first in NINE:
            for second in NINE + REFUSED:
                self.both(NINE[:1] + [first, second, second, first])
                self.both(NINE[:1] + [first, second] + NINE)

    def test_many_orders(self):
        calls = NINE + REFUSED
        for step in (2, 4, 5, 8, 10, 11, 13, 16, 17, 19, 20):
            self.both(NINE[:1] + [calls[k * step % len(calls)] for k in range(59)])

    def test_refusals_between_change_nothing(self):
        self.both(NINE[:1] + [pair for call in NINE[1:] for pair in REFUSED[:5] + [call]])
        self.both(NINE[:1] + [pair for call in NINE[1:] for pair in REFUSED[5:] + [call]][:59])
        for refused in REFUSED:
            self.both(NINE[:1] + [refused] + NINE[1:] + [refused] + NINE[1:])

    def test_begin_again(self):
        again = [(begin((1, 0), (-1, 2)), [2]), (DUAL, [3, 2, 1, 1, 1, 0, 1, 2]), (told((-1, 3)), [1, 1, 1, 1]),
                 (KIND, [2, 1, 1]), (LEAST, [3, 1, 0, 0, 1, -1, 2, 2]), (told((9, 10)), [1, 0, 9, 10])]
        first = [(DUAL, [2, 1, 0, 0, 1]), (told((9, 10)), [1, 0, 9, 10]), (told((-1, 3)), [0])]
        self.both(first + NINE + again + NINE + again + again)

    def test_nothing_of_the_calls_6_to_9_is_kept(self):
        self.assertEqual(ask(*[call for call, _ in NINE]), [due for _, due in NINE])
        self.assertEqual(ask(DUAL, told((9, 10)), LEAST, KIND),
                         [[2, 1, 0, 0, 1], [1, 0, 9, 10], [2, 1, 0, 0, 1], [1, 0, 0]])

    def test_whole_numbers_that_look_like_calls(self):
        for a in (1, 2, 7, 9):
            for b in (1, 5, 6, 8):
                self.assertEqual(ask(way(a, b), KIND, simplest(0, b, a, 0), KIND)[1::2], [[1, 0, 0]] * 2)
                self.assertEqual(ask(way(a, 0), KIND, simplest(a, 0, b, b), KIND), [[-1], [1, 0, 0]] * 2)
                self.assertEqual(ask(simplest(a, b, a, b), DUAL, simplest(TOP, 7, b, a), DUAL),
                                 [[-4], [2, 1, 0, 0, 1], [-1], [2, 1, 0, 0, 1]])

    def test_one_call_of_6_to_9(self):
        self.assertEqual(answers([6]), [5, 2, 1, 0, 0, 1])
        self.assertEqual(answers([7, 2, 3, 2, 2, 0, 0]), [4, 1, 0, 3, 2])
        self.assertEqual(answers([7, 2, 0, 0, 2, 0, 1]), [1, 0])
        self.assertEqual(answers([7, 0, 0]), [1, -3])
        self.assertEqual(answers([8, 1, 3, 1, 2]), [6, 2, 5, 3, 0, 0, 1])
        self.assertEqual(answers([8, 0, 1, 1, 0]), [3, 1, 1, 0])
        self.assertEqual(answers([8, 0, 0, 0, 0]), [1, -1])
        self.assertEqual(answers([9, 3, 7]), [5, 4, 0, 0, 1, 1])
        self.assertEqual(answers([9, 1, 1]), [1, 0])
        self.assertEqual(answers([9, 0, 1]), [1, -1])

    def test_sixty_long_answers(self):
        self.both([(begin((1, 40), (-1, 40)), [80])]
                  + [(DUAL, [81] + [k for x in range(40, -41, -1) for k in (x, 1)] + [2] * 79)] * 59)
        self.both([(simplest(200, 1, 1, 0), [201, 1, 200] + [1] * 200), (way(1, 200), [199] + [0] * 199)] * 30)

    def test_longest_lists_of_told(self):
        line = rows(7, [TOP] * 1024, [TOP] * 1023) * 7 + rows(7, [6] * 700, [6] * 700) + DUAL
        self.assertLessEqual(len(line), 16000)
        self.assertEqual(answers(line), [1, -3] * 8 + [5, 2, 1, 0, 0, 1])

    def test_what_is_handed_in_stays(self):
        line = list(LINE)
        answered = answers(line)
        self.assertEqual(line, LINE)
        answered.append(7)
        answered[0] = 7
        self.assertEqual(line, LINE)

    def test_what_is_handed_in_is_not_changed_for_a_while(self):
        self.assertEqual(answers(Watched(LINE)), ANSWERED)

    def test_a_second_time(self):
        first = answers(LINE)
        first.clear()
        self.assertEqual(answers(LINE), ANSWERED)
        self.assertEqual(answers(LINE), ANSWERED)

    def test_nothing_is_kept(self):
        answers(begin((1, 0), (3, 5)))
        self.assertEqual(answers(KIND), [3, 1, 0, 0])
        self.assertEqual(answers(LEAST), [5, 2, 1, 0, 0, 1])

    def test_whole_numbers_in_a_list(self):
        answered = answers(LINE)
        self.assertIs(type(answered), list)
        self.assertEqual({type(k) for k in answered}, {int})
        self.assertEqual({type(k) for k in answers(begin((1, 0), (1, 5)) + like((1, 0), (1, 5)))}, {int})
        for call, _ in NINE + REFUSED:
            self.assertEqual({type(k) for k in answers(call)}, {int}, call)

    def test_prints_nothing(self):
        out, err = io.StringIO(), io.StringIO()
        with contextlib.redirect_stdout(out), contextlib.redirect_stderr(err):
            answers(LINE)
            ask(*[call for call, _ in NINE + REFUSED])
        self.assertEqual(out.getvalue() + err.getvalue(), "")


if __name__ == "__main__":
    unittest.main()
