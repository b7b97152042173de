"""least: promises 1 and 2, the order, how many numbers there are."""

import unittest

from helper import (GREATEST, LEAST, ask, ask_of_cones, begin, cross, ends, has, least_apart, least_by_words, less,
                    numbers_by_words, small_cones, some_cones, together)


class LeastTest(unittest.TestCase):
    def test_beginning(self):
        self.assertEqual(ask(LEAST), [[2, 1, 0, 0, 1]])

    def test_n_one(self):
        for u, v in [((1, 0), (0, 1)), ((0, -1), (1, 0)), ((2, 3), (1, 2)), ((39, 38), (40, 39)), ((-1, 0), (0, -1))]:
            self.assertEqual(ask(begin(u, v), LEAST), [[1], [2, *u, *v]])

    def test_written_out(self):
        self.assertEqual(ask(begin((1, 0), (3, 5)), LEAST)[1], [4, 1, 0, 1, 1, 2, 3, 3, 5, 3, 2])
        self.assertEqual(ask(begin((1, 0), (-1, 2)), LEAST)[1], [3, 1, 0, 0, 1, -1, 2, 2])
        self.assertEqual(ask(begin((1, 0), (1, 3)), LEAST)[1], [4, 1, 0, 1, 1, 1, 2, 1, 3, 2, 2])
        self.assertEqual(ask(begin((1, 0), (-1, 3)), LEAST)[1], [3, 1, 0, 0, 1, -1, 3, 3])
        self.assertEqual(ask(begin((0, 1), (-2, -1)), LEAST)[1], [3, 0, 1, -1, 0, -2, -1, 2])

    def test_many_least_points(self):
        points = [(1, y) for y in range(-40, 41)]
        flat = [k for p in points for k in p]
        self.assertEqual(ask(begin((1, -40), (1, 40)), LEAST)[1], [81] + flat + [2] * 79)

    def test_all_of_small_cones_by_words(self):
        cones = small_cones(4)
        self.assertGreater(len(cones), 1000)
        for (u, v), answer in zip(cones, ask_of_cones(cones, LEAST)):
            points, numbers = least_apart(answer)
            self.assertEqual(points, least_by_words(u, v), (u, v))
            self.assertEqual(numbers, numbers_by_words(points), (u, v))

    def test_greatest_n_by_words(self):
        for u, v in GREATEST:
            n, answer = ask(begin(u, v), LEAST)
            self.assertEqual(n, [3121])
            points, numbers = least_apart(answer)
            self.assertEqual(points, least_by_words(u, v), (u, v))
            self.assertEqual(numbers, numbers_by_words(points), (u, v))

    def test_greatest_n_is_none_above(self):
        points = ends(40)
        outer = [p for p in points if max(abs(p[0]), abs(p[1])) >= 39]
        self.assertEqual(max(cross(u, v) for u in outer for v in outer), 3121)

    def test_they_make_all_points(self):
        cones = small_cones(3)
        span = range(-7, 8)
        for (u, v), answer in zip(cones, ask_of_cones(cones, LEAST)):
            points, _ = least_apart(answer)
            self.assertTrue(all(has(u, v, w) and w != (0, 0) for w in points), (u, v))
            for p in [(x, y) for x in span for y in span if has(u, v, (x, y)) and (x, y) != (0, 0)]:
                # What is left is nearer to the origin between u and v, so taking away ends there.
                while p != (0, 0):
                    left = [less(p, w) for w in points if has(u, v, less(p, w))]
                    self.assertTrue(left, (u, v, p))
                    p = left[0]

    def test_none_can_be_spared(self):
        cones = some_cones()
        for (u, v), answer in zip(cones, ask_of_cones(cones, LEAST)):
            points, _ = least_apart(answer)
            for w in points:
                # Were w two others together, one other least point could be taken from it within the cone.
                self.assertFalse(any(has(u, v, less(w, r)) for r in points if r != w), (u, v))

    def test_neighbours_and_numbers_of_many_cones(self):
        cones = some_cones()
        self.assertGreater(len(cones), 3000)
        for (u, v), answer in zip(cones, ask_of_cones(cones, LEAST)):
            points, numbers = least_apart(answer)
            self.assertEqual((points[0], points[-1]), (u, v))
            self.assertEqual(len(numbers), len(points) - 2)
            for x, y in zip(points, points[1:]):
                self.assertEqual(cross(x, y), 1, (u, v))
            for i, k in enumerate(numbers):
                self.assertGreaterEqual(k, 2, (u, v))
                self.assertEqual(together(points[i], points[i + 2]), (k * points[i + 1][0], k * points[i + 1][1]))


if __name__ == "__main__":
    unittest.main()
