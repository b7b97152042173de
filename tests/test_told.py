"""told: which two neighbours tell a point, and how often each; promise 5."""

import unittest

from helper import (DUAL, GREATEST, KIND, LEAST, SAIL, TOP, ask, ask_of_cones, begin, has, least_apart, least_by_words,
                    rows, small_cones, some_cones, told)

TOLD = 7
CONE = begin((1, 0), (3, 5))


def ask_told(u, v, points):
    """What the cone from u to v tells of each of the points."""
    found = []
    for start in range(0, len(points), 59):
        found += ask(begin(u, v), *[told(p) for p in points[start:start + 59]])[1:]
    return found


def told_by_words(least, most):
    """By point: the first two neighbours that are it together, so and so often up to this, by trying."""
    found = {(0, 0): [1, 0, 0, 0]}
    for i in range(len(least) - 1):
        (a, b), (c, d) = least[i], least[i + 1]
        for often in range(most + 1):
            for often_next in range(most + 1):
                point = (often * a + often_next * c, often * b + often_next * d)
                found.setdefault(point, [1, i, often, often_next])
    return found


class ToldTest(unittest.TestCase):
    def test_beginning(self):
        found = ask(told((3, 2)), told((1, 0)), told((0, 1)), told((0, 0)), told((5, 0)), told((0, 7)), told((-1, 0)),
                    told((0, -1)), told((-2, -3)))
        self.assertEqual(found, [[1, 0, 3, 2], [1, 0, 1, 0], [1, 0, 0, 1], [1, 0, 0, 0], [1, 0, 5, 0], [1, 0, 0, 7],
                                 [0], [0], [0]])

    def test_written_out(self):
        # The least points are (1, 0), (1, 1), (2, 3) and (3, 5).
        found = ask(CONE, told((2, 1)), told((3, 4)), told((5, 8)), told((9, 10)), told((7, 5)), told((9, 15)))
        self.assertEqual(found, [[5], [1, 0, 1, 1], [1, 1, 1, 1], [1, 2, 1, 1], [1, 1, 7, 1], [1, 0, 2, 5],
                                 [1, 2, 0, 3]])

    def test_origin(self):
        for u, v in small_cones(2) + GREATEST:
            self.assertEqual(ask(begin(u, v), told((0, 0)))[1], [1, 0, 0, 0])

    def test_each_least_point(self):
        for u, v in small_cones(4) + GREATEST:
            points = least_apart(ask(begin(u, v), LEAST)[1])[0]
            # All but the first are told by the one before and themselves, sooner than by themselves and the next.
            expected = [[1, 0, 1, 0]] + [[1, i, 0, 1] for i in range(len(points) - 1)]
            self.assertEqual(ask_told(u, v, points), expected, (u, v))
            thrice = [(3 * x, 3 * y) for x, y in points]
            self.assertEqual(ask_told(u, v, thrice), [[a, b, 3 * c, 3 * d] for a, b, c, d in expected], (u, v))

    def test_ends(self):
        cones = some_cones()
        for (u, v), answer in zip(cones, ask_of_cones(cones, LEAST)):
            self.assertEqual(ask_told(u, v, [u, v]), [[1, 0, 1, 0], [1, answer[0] - 2, 0, 1]], (u, v))

    def test_points_beside_the_cone(self):
        self.assertEqual(ask(CONE, told((1, -1)), told((4, 7)), told((-1, 0)), told((-3, -5)), told((-1, -1)),
                             told((0, 1))), [[5], [0], [0], [0], [0], [0], [0]])
        # Just on the ends' ways, and one beside them.
        self.assertEqual(ask(CONE, told((1600, 0)), told((1600, -1)), told((960, 1600)), told((959, 1600)))[1:],
                         [[1, 0, 1600, 0], [0], [1, 2, 0, 320], [0]])

    def test_small_cones_by_words(self):
        span = range(-4, 5)
        around = [(x, y) for x in span for y in span]
        cones = small_cones(3)
        for u, v in cones:
            by_words = told_by_words(least_by_words(u, v), 24)
            for p, answer in zip(around, ask_told(u, v, around)):
                self.assertEqual(answer, by_words.get(p, [0]), (u, v, p))

    def check(self, u, v, least, point, answer):
        """That the answer tells the point by the first two neighbours that can, or that the cone hasn't it."""
        if not has(u, v, point):
            self.assertEqual(answer, [0], (u, v, point))
            return
        one, number, often, often_next = answer
        self.assertEqual(one, 1)
        self.assertTrue(often >= 0 and often_next >= 0 and 0 <= number <= len(least) - 2, (u, v, point))
        (a, b), (c, d) = least[number], least[number + 1]
        self.assertEqual((often * a + often_next * c, often * b + often_next * d), point, (u, v))
        # Without the next one, the point is told by the least point before, too.
        self.assertTrue(often_next > 0 or number == 0, (u, v, point))

    def test_many_cones_and_points(self):
        cones = some_cones()
        told_of = {True: 0, False: 0}
        for k, ((u, v), answer) in enumerate(zip(cones, ask_of_cones(cones, LEAST))):
            least = least_apart(answer)[0]
            points = [((k * 7 + i * 211) % 3201 - 1600, (k * 13 + i * 577) % 3201 - 1600) for i in range(12)]
            points += [(u[0] * i + v[0] * (9 - i), u[1] * i + v[1] * (9 - i)) for i in range(10)]
            points += [(u[0] * i - v[0], u[1] * i - v[1]) for i in range(3)]
            points += [(x + a, y + b) for x, y in least[::5] for a, b in [(1, 0), (0, 1), (-1, 0), (0, -1)]]
            for p, found in zip(points, ask_told(u, v, points)):
                self.check(u, v, least, p, found)
                told_of[found[0] == 1] += 1
        self.assertGreater(min(told_of.values()), 10000)

    def test_far_points_of_the_greatest_n(self):
        far = [(x, y) for x in (-1600, -1599, -1, 0, 1, 1599, 1600) for y in (-1600, -1599, -1, 0, 1, 1599, 1600)]
        for u, v in GREATEST:
            least = least_apart(ask(begin(u, v), LEAST)[1])[0]
            for p, found in zip(far, ask_told(u, v, far)):
                self.check(u, v, least, p, found)

    def test_plus_less_minus(self):
        for low in [0, 1, 1600, 2 ** 63, TOP - 1600]:
            found = ask(CONE, rows(TOLD, [low + 9, low + 10], [low, low]), rows(TOLD, [low + 1600, low], [low, low]),
                        rows(TOLD, [low, low], [low + 9, low + 10]), rows(TOLD, [low + 9, low], [low, low + 10]))
            self.assertEqual(found[1:], [[1, 1, 7, 1], [1, 0, 1600, 0], [0], [0]])
        found = ask(rows(TOLD, [TOP, TOP], [TOP, TOP]), rows(TOLD, [TOP, TOP], [TOP - 3, TOP - 2]),
                    rows(TOLD, [TOP - 3, TOP - 2], [TOP, TOP]), rows(TOLD, [TOP, 5], [TOP - 2, 1]),
                    rows(TOLD, [TOP, 1], [TOP - 1600, 0]))
        self.assertEqual(found, [[1, 0, 0, 0], [1, 0, 3, 2], [0], [1, 0, 2, 4], [1, 0, 1600, 1]])


class RefusalTest(unittest.TestCase):
    def refused(self, plus, minus, refusal):
        self.assertEqual(ask(rows(TOLD, plus, minus)), [[refusal]], (plus, minus))
        self.assertEqual(ask(CONE, rows(TOLD, plus, minus))[1], [refusal], (plus, minus))

    def test_lists_not_of_two(self):
        for many in [0, 1, 3, 4, 5, 8, 1024]:
            self.refused([1] * many, [0] * many, -3)

    def test_lists_of_unlike_lengths(self):
        for some, others in [(2, 0), (2, 1), (2, 3), (2, 4), (2, 1024), (0, 1), (1, 3), (0, 4), (3, 4)]:
            self.refused([1] * some, [0] * others, -3)
            self.refused([1] * others, [0] * some, -3)

    def test_beyond_1600(self):
        for far in [1601, 1602, 3200, 2 ** 63, TOP - 1, TOP]:
            self.refused([far, 0], [0, 0], -1)
            self.refused([0, far], [0, 0], -1)
            self.refused([0, 0], [far, 0], -1)
            self.refused([0, 0], [0, far], -1)
            self.refused([far, far], [0, 0], -1)
            self.refused([far, 0], [0, far], -1)
        self.refused([TOP, 0], [TOP - 1601, 0], -1)
        self.refused([1, TOP - 1601], [0, TOP], -1)

    def test_1600_is_none(self):
        for p in [(1600, 0), (0, 1600), (1600, 1600), (-1600, 0), (0, -1600), (-1600, -1600), (1600, -1600)]:
            expected = [1, 0, p[0], p[1]] if min(p) >= 0 else [0]
            self.assertEqual(ask(told(p)), [expected])
        for u, v in GREATEST:
            for p in [(1600, 1600), (-1600, 1600), (-1600, -1600), (1600, -1600)]:
                self.assertEqual(ask(begin(u, v), told(p))[1][0], int(has(u, v, p)))

    def test_the_one_told_first(self):
        self.refused([TOP], [0], -3)
        self.refused([1601, 0], [0], -3)
        self.refused([1601, 0, 0], [0, 0, 0], -3)
        self.refused([TOP] * 4, [0] * 4, -3)
        # Beyond 1600 and beside the cone: -1, not 0.
        self.refused([0, 0], [1601, 1601], -1)

    def test_all_is_as_it_was(self):
        asked = [LEAST, SAIL, KIND, DUAL, told((9, 10)), told((-1, 3))]
        wrong = [rows(TOLD, [], []), rows(TOLD, [1, 2], [0]), told((1601, 0)), told((0, -1601))]
        for first in [[], [CONE], [begin(*GREATEST[1])]]:
            before = ask(*first, *asked)
            after = ask(*first, *wrong, *asked)
            self.assertEqual(after[:len(first)] + after[len(first) + 4:], before)
            self.assertEqual(after[len(first):len(first) + 4], [[-3], [-3], [-1], [-1]])
            # Telling changes nothing either.
            self.assertEqual(ask(*first, told((2, 3)), told((-5, 1)), *asked)[-6:], before[-6:])

    def test_after_a_refused_begin(self):
        wrong = [rows(1, [], []), begin((41, 1), (0, 1)), begin((2, 0), (0, 1)), begin((0, 1), (1, 0))]
        self.assertEqual(ask(CONE, *wrong, told((9, 10))), [[5], [-3], [-1], [-4], [-4], [1, 1, 7, 1]])
        self.assertEqual(ask(*wrong, told((9, 10)))[-1], [1, 0, 9, 10])


if __name__ == "__main__":
    unittest.main()
