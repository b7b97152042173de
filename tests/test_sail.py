"""sail: u, the least points whose number is above 2, and v."""

import unittest

from helper import (GREATEST, LEAST, SAIL, ask, ask_of_cones, begin, least_apart, least_by_words, numbers_by_words,
                    small_cones, some_cones)


def told_by(points, numbers):
    """What sail is to answer, out of these least points and numbers."""
    between = [p for p, k in zip(points[1:-1], numbers) if k > 2]
    corners = [points[0]] + between + [points[-1]]
    return [len(corners)] + [k for p in corners for k in p]


class SailTest(unittest.TestCase):
    def test_beginning(self):
        self.assertEqual(ask(SAIL), [[2, 1, 0, 0, 1]])

    def test_written_out(self):
        self.assertEqual(ask(begin((1, 0), (3, 5)), SAIL)[1], [3, 1, 0, 1, 1, 3, 5])
        self.assertEqual(ask(begin((1, 0), (-1, 3)), SAIL)[1], [3, 1, 0, 0, 1, -1, 3])

    def test_number_two_is_no_corner(self):
        self.assertEqual(ask(begin((1, 0), (-1, 2)), SAIL)[1], [2, 1, 0, -1, 2])
        self.assertEqual(ask(begin((1, -40), (1, 40)), SAIL)[1], [2, 1, -40, 1, 40])

    def test_small_cones_by_words(self):
        cones = small_cones(3) + GREATEST
        for (u, v), answer in zip(cones, ask_of_cones(cones, SAIL)):
            points = least_by_words(u, v)
            self.assertEqual(answer, told_by(points, numbers_by_words(points)), (u, v))

    def test_many_cones_beside_least(self):
        cones = some_cones()
        several = 0
        for (u, v), least, sail in zip(cones, ask_of_cones(cones, LEAST), ask_of_cones(cones, SAIL)):
            points, numbers = least_apart(least)
            self.assertEqual(sail, told_by(points, numbers), (u, v))
            several += sail[0] >= 4
        self.assertGreater(several, 1000)


if __name__ == "__main__":
    unittest.main()
