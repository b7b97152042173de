"""dual: its least points and their numbers; promise 3, and 1 and 2 over duals."""

import unittest

from helper import (DUAL, GREATEST, KIND, LEAST, SAIL, ask, ask_of_cones, begin, check_neighbours,
                    check_none_can_be_spared, check_they_make_all, cross, dual_ends, has, least_apart, least_by_words,
                    like, numbers_by_words, small_cones, some_cones)


def dot(p, x):
    return p[0] * x[0] + p[1] * x[1]


class DualTest(unittest.TestCase):
    def test_beginning(self):
        self.assertEqual(ask(DUAL), [[2, 1, 0, 0, 1]])

    def test_n_one(self):
        for u, v in [((1, 0), (0, 1)), ((0, -1), (1, 0)), ((2, 3), (1, 2)), ((39, 38), (40, 39)), ((-1, 0), (0, -1))]:
            self.assertEqual(ask(begin(u, v), DUAL), [[1], [2, v[1], -v[0], -u[1], u[0]]])

    def test_written_out(self):
        self.assertEqual(ask(begin((1, 0), (3, 5)), DUAL)[1], [4, 5, -3, 2, -1, 1, 0, 0, 1, 3, 2])
        self.assertEqual(ask(begin((1, 0), (-1, 2)), DUAL)[1], [3, 2, 1, 1, 1, 0, 1, 2])
        self.assertEqual(ask(begin((1, 0), (1, 3)), DUAL)[1], [3, 3, -1, 1, 0, 0, 1, 3])
        self.assertEqual(ask(begin((1, 0), (-1, 3)), DUAL)[1], [4, 3, 1, 2, 1, 1, 1, 0, 1, 2, 2])
        self.assertEqual(ask(begin((0, 1), (-2, -1)), DUAL)[1], [3, -1, 2, -1, 1, -1, 0, 2])

    def test_many_and_few(self):
        few = ask(begin((1, -40), (1, 40)), DUAL, begin((-1, 40), (-1, -40)), DUAL, begin((40, 1), (-40, 1)), DUAL)
        self.assertEqual(few[1::2], [[3, 40, -1, 1, 0, 40, 1, 80], [3, -40, 1, -1, 0, -40, -1, 80],
                                     [3, 1, 40, 0, 1, -1, 40, 80]])
        flat = [k for x in range(40, -41, -1) for k in (x, 1)]
        self.assertEqual(ask(begin((1, 40), (-1, 40)), DUAL)[1], [81] + flat + [2] * 79)

    def test_small_cones_by_words(self):
        cones = small_cones(4)
        for (u, v), answer in zip(cones, ask_of_cones(cones, DUAL)):
            points, numbers = least_apart(answer)
            self.assertEqual(points, least_by_words(*dual_ends(u, v)), (u, v))
            self.assertEqual(numbers, numbers_by_words(points), (u, v))

    def test_greatest_n_by_words(self):
        for u, v in GREATEST:
            n, answer = ask(begin(u, v), DUAL)
            self.assertEqual(n, [3121])
            points, numbers = least_apart(answer)
            self.assertEqual(points, least_by_words(*dual_ends(u, v)), (u, v))
            self.assertEqual(numbers, numbers_by_words(points), (u, v))

    def test_it_has_what_the_document_says(self):
        # Just the points whose numbers with each point of the cone together aren't below 0.
        span = range(-6, 7)
        around = [(x, y) for x in span for y in span]
        cones = small_cones(2)
        for (u, v), answer in zip(cones, ask_of_cones(cones, DUAL)):
            points, _ = least_apart(answer)
            inside = [x for x in around if has(u, v, x)]
            for p in around:
                self.assertEqual(has(points[0], points[-1], p), all(dot(p, x) >= 0 for x in inside), (u, v, p))

    def test_least_points_make_all_points_of_the_dual(self):
        cones = small_cones(3)
        for (u, v), answer in zip(cones, ask_of_cones(cones, DUAL)):
            points, _ = least_apart(answer)
            self.assertEqual((points[0], points[-1]), dual_ends(u, v))
            check_they_make_all(self, points, 6)

    def test_neighbours_and_numbers_of_many_duals(self):
        cones = some_cones() + GREATEST
        for (u, v), answer in zip(cones, ask_of_cones(cones, DUAL)):
            points, numbers = least_apart(answer)
            self.assertEqual((points[0], points[-1]), dual_ends(u, v))
            check_neighbours(self, points, numbers)
            check_none_can_be_spared(self, points)

    def test_numbers_of_cone_and_dual(self):
        cones = some_cones() + small_cones(6) + GREATEST
        tried = 0
        for (u, v), least, dual in zip(cones, ask_of_cones(cones, LEAST), ask_of_cones(cones, DUAL)):
            if cross(u, v) >= 2:
                numbers = least_apart(least)[1]
                of_dual = least_apart(dual)[1]
                both = len(numbers) + len(of_dual)
                self.assertEqual(sum(k - 1 for k in numbers), both - 1, (u, v))
                self.assertEqual(sum(k - 1 for k in of_dual), both - 1, (u, v))
                tried += 1
        self.assertGreater(tried, 5000)

    def test_dual_of_the_dual_is_the_cone(self):
        for u, v in small_cones(5) + some_cones()[::9]:
            self.assertEqual(ask(begin(*dual_ends(u, v)), DUAL)[1], ask(begin(u, v), LEAST)[1], (u, v))

    def test_cone_stays(self):
        asked = [LEAST, SAIL, KIND, like((1, 0), (2, 5))]
        for first in [[], [begin((1, 0), (3, 5))], [begin(*GREATEST[2])]]:
            before = ask(*first, *asked)
            after = ask(*first, DUAL, DUAL, *asked, DUAL)
            many = len(first)
            self.assertEqual(after[:many] + after[many + 2:-1], before)
            self.assertEqual(after[many], after[many + 1])
            self.assertEqual(after[many], after[-1])

    def test_after_a_refused_begin(self):
        wrong = [[1, 0, 0], begin((41, 1), (0, 1)), begin((2, 0), (0, 1)), begin((0, 1), (1, 0))]
        found = ask(begin((1, 0), (3, 5)), *wrong, DUAL)
        self.assertEqual(found, [[5], [-3], [-1], [-4], [-4], [4, 5, -3, 2, -1, 1, 0, 0, 1, 3, 2]])
        self.assertEqual(ask(*wrong, DUAL)[-1], [2, 1, 0, 0, 1])


if __name__ == "__main__":
    unittest.main()
