"""begin: its n, and the refusals, which like has as well."""

import unittest

from helper import (KIND, LEAST, SAIL, TOP, ask, ask_many, begin, cross, ends, least_apart, least_by_words, rows,
                    two_lists)

BEGIN, LIKE = 1, 5


class BeginTest(unittest.TestCase):
    def test_answers_n(self):
        self.assertEqual(ask(begin((1, 0), (0, 1))), [[1]])
        self.assertEqual(ask(begin((1, 0), (3, 5))), [[5]])
        self.assertEqual(ask(begin((-3, -7), (5, -2))), [[41]])
        self.assertEqual(ask(begin((40, -39), (39, 40))), [[3121]])

    def test_n_of_all_small_ends(self):
        points = ends(3)
        pairs = [(u, v) for u in points for v in points]
        for (u, v), answer in zip(pairs, ask_many([begin(u, v) for u, v in pairs])):
            n = cross(u, v)
            self.assertEqual(answer, [n] if n > 0 else [-4], (u, v))

    def test_may_come_again(self):
        found = ask(begin((1, 0), (3, 5)), KIND, begin((1, 0), (-1, 2)), KIND, begin((1, 0), (3, 5)), KIND)
        self.assertEqual(found, [[5], [5, 2, 3], [2], [2, 1, 1], [5], [5, 2, 3]])

    def test_n_on_either_side_of_0(self):
        found = ask(begin((1, 0), (-39, 1)), begin((1, 0), (-39, 0)), begin((1, 0), (-39, -1)))
        self.assertEqual(found, [[1], [-4], [-4]])

    def test_plus_less_minus(self):
        for least in [0, 1, 40, 2 ** 63, 2 ** 64 - 46]:
            found = ask(rows(BEGIN, [least + 2, least + 1, least, least + 45], [least, least, least + 3, least + 40]),
                        LEAST)
            self.assertEqual(found[0], [13])
            self.assertEqual(least_apart(found[1])[0], least_by_words((2, 1), (-3, 5)))
        self.assertEqual(ask(rows(BEGIN, [TOP, TOP, TOP, TOP], [TOP - 1, TOP, TOP, TOP - 1])), [[1]])
        self.assertEqual(ask(rows(BEGIN, [TOP - 1, TOP, TOP, TOP - 1], [TOP, TOP, TOP, TOP])), [[1]])
        self.assertEqual(ask(rows(BEGIN, [TOP, TOP - 40, 0, TOP], [TOP - 39, TOP, 0, TOP - 1])), [[39]])


class RefusalTest(unittest.TestCase):
    """Each for begin and for like."""

    def refused(self, plus, minus, refusal):
        for call in (BEGIN, LIKE):
            self.assertEqual(ask(rows(call, plus, minus)), [[refusal]], (call, plus, minus))

    def refused_ends(self, u, v, refusal):
        plus, minus = two_lists([*u, *v])
        self.refused(plus, minus, refusal)

    def taken_ends(self, u, v):
        plus, minus = two_lists([*u, *v])
        for call in (BEGIN, LIKE):
            self.assertGreaterEqual(ask(rows(call, plus, minus))[0][0], 0, (call, u, v))

    def test_lists_not_of_four(self):
        good = [1, 0, 0, 1, 0, 1, 1, 0]
        for many in [0, 1, 2, 3, 5, 6, 7, 8]:
            self.refused(good[:many], [0] * many, -3)
        self.refused([1] * 1024, [0] * 1024, -3)

    def test_lists_of_unlike_lengths(self):
        for some, others in [(4, 0), (4, 3), (4, 5), (4, 8), (4, 1024), (3, 5), (0, 1), (0, 8), (2, 6)]:
            for one, other in [(some, others), (others, some)]:
                self.refused(([1, 0, 0, 1] + [0] * 1024)[:one], [0] * other, -3)

    def test_beyond_40(self):
        good = [(1, 0), (0, 1)]
        for far in [41, -41, 42, 80, 1000, -1000, TOP, -TOP, 2 ** 63, -2 ** 63]:
            for place in range(4):
                numbers = [*good[0], *good[1]]
                numbers[place] = far
                plus, minus = two_lists(numbers)
                self.refused(plus, minus, -1)

    def test_40_is_none(self):
        self.taken_ends((1, 0), (40, 1))
        self.taken_ends((1, 0), (-40, 1))
        self.taken_ends((1, 0), (1, 40))
        self.taken_ends((-1, 0), (1, -40))
        self.taken_ends((40, 1), (0, 1))
        self.taken_ends((1, 40), (-1, 0))
        self.taken_ends((-40, 1), (0, -1))
        self.taken_ends((1, -40), (0, 1))
        self.taken_ends((40, -39), (39, 40))

    def test_origin(self):
        self.refused_ends((0, 0), (0, 1), -4)
        self.refused_ends((1, 0), (0, 0), -4)
        self.refused_ends((0, 0), (0, 0), -4)

    def test_common_divisor(self):
        for far in [2, 3, 5, 40]:
            self.refused_ends((far, 0), (0, 1), -4)
            self.refused_ends((1, 0), (0, far), -4)
            self.refused_ends((0, far), (-1, 0), -4)
            self.refused_ends((0, 1), (-far, 0), -4)
            self.refused_ends((0, -far), (1, 0), -4)
        self.refused_ends((4, 6), (-1, 1), -4)
        self.refused_ends((-4, 6), (-1, -1), -4)
        self.refused_ends((1, -1), (15, 35), -4)
        self.refused_ends((1, 1), (-15, -10), -4)
        self.refused_ends((39, 26), (1, 1), -4)
        self.refused_ends((40, -40), (39, 40), -4)

    def test_n_none_or_below(self):
        self.refused_ends((1, 0), (1, 0), -4)
        self.refused_ends((3, 5), (3, 5), -4)
        self.refused_ends((1, 0), (-1, 0), -4)
        self.refused_ends((3, -5), (-3, 5), -4)
        self.refused_ends((0, 1), (1, 0), -4)
        self.refused_ends((3, 5), (1, 0), -4)
        self.refused_ends((39, 40), (40, -39), -4)

    def test_the_one_told_first(self):
        # Numbers beyond 40 and ends that are none, in lists that aren't so: -3.
        self.refused([41, 0, 0], [0, 0, 0], -3)
        self.refused([41, 0, 0, 1], [0, 0, 0], -3)
        self.refused([0, 0, 0, 0], [0, 0, 0], -3)
        self.refused([TOP] * 5, [0] * 5, -3)
        # Beyond 40, and no ends either: -1.
        self.refused_ends((42, 0), (0, 1), -1)
        self.refused_ends((0, 0), (0, 41), -1)
        self.refused_ends((0, 1), (41, 0), -1)
        self.refused_ends((41, 41), (41, 41), -1)
        self.refused_ends((2, 2), (1, -50), -1)

    def test_all_is_as_it_was(self):
        wrong = [rows(BEGIN, [], []), rows(BEGIN, [1, 0, 0, 1], [0, 0, 0]), begin((41, 1), (0, 1)),
                 begin((1, 0), (0, 2)), begin((0, 1), (1, 0)), begin((0, 0), (0, 0)),
                 rows(LIKE, [1], [0]), rows(LIKE, [41, 0, 0, 1], [0, 0, 0, 0]), rows(LIKE, [2, 0, 0, 1], [0, 0, 0, 0])]
        asked = [LEAST, SAIL, KIND]
        for first in [[], [begin((1, 0), (3, 5))], [begin((-40, 39), (-39, -40))]]:
            before = ask(*first, *asked)
            for call in wrong:
                found = ask(*first, call, *asked)
                self.assertEqual(len(found[len(first)]), 1)
                self.assertLess(found[len(first)][0], 0)
                self.assertEqual(found[:len(first)] + found[len(first) + 1:], before)
            refused = ask(*first, *wrong, *asked)
            self.assertEqual(refused[:len(first)] + refused[-3:], before)
            self.assertEqual(refused[len(first):-3], [[-3], [-3], [-1], [-4], [-4], [-4], [-3], [-1], [-4]])


if __name__ == "__main__":
    unittest.main()
