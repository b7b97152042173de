"""kind: n, q and the other kind's q; the second half of promise 4."""

import unittest

from helper import GREATEST, KIND, ask, ask_of_cones, begin, cross, least_by_words, small_cones, some_cones


def q_by_words(u, v):
    """q such that v is n times the second least point less q times u, by trying."""
    n = cross(u, v)
    w = least_by_words(u, v)[1]
    return next(q for q in range(n) if (n * w[0] - q * u[0], n * w[1] - q * u[1]) == v)


def kind_by_words(u, v):
    return [cross(u, v), q_by_words(u, v), q_by_words((v[1], v[0]), (u[1], u[0]))]


class KindTest(unittest.TestCase):
    def test_beginning(self):
        self.assertEqual(ask(KIND), [[1, 0, 0]])

    def test_written_out(self):
        self.assertEqual(ask(begin((1, 0), (3, 5)), KIND)[1], [5, 2, 3])
        self.assertEqual(ask(begin((1, 0), (2, 5)), KIND)[1], [5, 3, 2])
        self.assertEqual(ask(begin((1, 0), (-1, 5)), KIND)[1], [5, 1, 1])
        self.assertEqual(ask(begin((1, 0), (1, 5)), KIND)[1], [5, 4, 4])
        self.assertEqual(ask(begin((0, 1), (-7, -3)), KIND)[1], [7, 3, 5])

    def test_n_one_has_q_none(self):
        cones = [(u, v) for u, v in some_cones() + small_cones(5) if cross(u, v) == 1]
        self.assertGreater(len(cones), 100)
        for answer in ask_of_cones(cones, KIND):
            self.assertEqual(answer, [1, 0, 0])

    def test_small_cones_by_words(self):
        cones = small_cones(3) + GREATEST
        for (u, v), answer in zip(cones, ask_of_cones(cones, KIND)):
            self.assertEqual(answer, kind_by_words(u, v), (u, v))

    def test_many_cones(self):
        cones = some_cones()
        unlike = 0
        for (u, v), (n, q, other) in zip(cones, ask_of_cones(cones, KIND)):
            self.assertEqual(n, cross(u, v))
            self.assertTrue(0 <= q < n and 0 <= other < n, (u, v))
            # v and q times u together are n times a whole point, and so are u and the other q times v.
            self.assertEqual([(v[i] + q * u[i]) % n for i in (0, 1)], [0, 0], (u, v))
            self.assertEqual([(u[i] + other * v[i]) % n for i in (0, 1)], [0, 0], (u, v))
            if n >= 2:
                self.assertEqual(q * other % n, 1, (u, v))
            unlike += q != other
        self.assertGreater(unlike, 1000)

    def test_other_kind_is_that_of_the_cone_with_x_and_y_changed(self):
        cones = some_cones()
        changed = [((v[1], v[0]), (u[1], u[0])) for u, v in cones]
        for (n, q, other), there in zip(ask_of_cones(cones, KIND), ask_of_cones(changed, KIND)):
            self.assertEqual(there, [n, other, q])


if __name__ == "__main__":
    unittest.main()
