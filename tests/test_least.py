"""least: promises 1 and 2, the order, how many numbers there are."""

import unittest

from helper import (GREATEST, LEAST, ask, ask_of_cones, begin, check_neighbours, check_none_can_be_spared,
                    check_they_make_all, cross, ends, least_apart, least_by_words, numbers_by_words, small_cones,
                    some_cones)


class LeastTest(unittest.TestCase):
    def test_beginning(self):
        self.assertEqual(ask(LEAST), [[2, 1, 0, 0, 1]])

    def test_n_one(self):
        for u, v in [((1, 0), (0, 1)), ((0, -1), (1, 0)), ((2, 3), (1, 2)), ((39, 38), (40, 39)), ((-1, 0), (0, -1))]:
            self.assertEqual(ask(begin(u, v), LEAST), [[1], [2, *u, *v]])

    def test_written_out(self):
        self.assertEqual(ask(begin((1, 0), (3, 5)), LEAST)[1], [4, 1, 0, 1, 1, 2, 3, 3, 5, 3, 2])
        self.assertEqual(ask(begin((1, 0), (-1, 2)), LEAST)[1], [3, 1, 0, 0, 1, -1, 2, 2])
        self.assertEqual(ask(begin((1, 0), (1, 3)), LEAST)[1], [4, 1, 0, 1, 1, 1, 2, 1, 3, 2, 2])
        self.assertEqual(ask(begin((1, 0), (-1, 3)), LEAST)[1], [3, 1, 0, 0, 1, -1, 3, 3])
        self.assertEqual(ask(begin((0, 1), (-2, -1)), LEAST)[1], [3, 0, 1, -1, 0, -2, -1, 2])

    def test_many_least_points(self):
        points = [(1, y) for y in range(-40, 41)]
        flat = [k for p in points for k in p]
        self.assertEqual(ask(begin((1, -40), (1, 40)), LEAST)[1], [81] + flat + [2] * 79)

    def test_all_of_small_cones_by_words(self):
        cones = small_cones(4)
        self.assertGreater(len(cones), 1000)
        for (u, v), answer in zip(cones, ask_of_cones(cones, LEAST)):
            points, numbers = least_apart(answer)
            self.assertEqual(points, least_by_words(u, v), (u, v))
            self.assertEqual(numbers, numbers_by_words(points), (u, v))

    def test_greatest_n_by_words(self):
        for u, v in GREATEST:
            n, answer = ask(begin(u, v), LEAST)
            self.assertEqual(n, [3121])
            points, numbers = least_apart(answer)
            self.assertEqual(points, least_by_words(u, v), (u, v))
            self.assertEqual(numbers, numbers_by_words(points), (u, v))

    def test_greatest_n_is_none_above(self):
        points = ends(40)
        outer = [p for p in points if max(abs(p[0]), abs(p[1])) >= 39]
        self.assertEqual(max(cross(u, v) for u in outer for v in outer), 3121)

    def test_they_make_all_points(self):
        cones = small_cones(3)
        for (u, v), answer in zip(cones, ask_of_cones(cones, LEAST)):
            points, _ = least_apart(answer)
            self.assertEqual((points[0], points[-1]), (u, v))
            check_they_make_all(self, points, 7)

    def test_neighbours_and_numbers_of_many_cones(self):
        cones = some_cones()
        self.assertGreater(len(cones), 3000)
        for (u, v), answer in zip(cones, ask_of_cones(cones, LEAST)):
            points, numbers = least_apart(answer)
            self.assertEqual((points[0], points[-1]), (u, v))
            check_neighbours(self, points, numbers)
            check_none_can_be_spared(self, points)


if __name__ == "__main__":
    unittest.main()
