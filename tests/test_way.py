"""way: how long the way to a fraction is, and the way."""

import unittest
from math import gcd

from helper import DUAL, GREATEST, KIND, LEAST, SAIL, TOP, ask, ask_many, begin, simplest, walked, way


def way_by_taking_away(a, b):
    """The way by taking the lesser of both numbers from the greater until they are the same."""
    turns = []
    while a != b:
        if a > b:
            turns.append(1)
            a -= b
        else:
            turns.append(0)
            b -= a
    return turns


class WayTest(unittest.TestCase):
    def test_written_out(self):
        found = ask(way(1, 2), way(2, 1), way(3, 7), way(5, 3), way(8, 5), way(2, 3))
        self.assertEqual(found, [[1, 0], [1, 1], [4, 0, 0, 1, 1], [3, 1, 0, 1], [4, 1, 0, 1, 0], [2, 0, 1]])

    def test_no_step(self):
        for k in [1, 2, 3, 100, 199, 200]:
            self.assertEqual(ask(way(k, k)), [[0]])

    def test_common_divisor(self):
        self.assertEqual(ask(way(2, 2), way(4, 2), way(2, 4), way(6, 14), way(200, 100), way(100, 150)),
                         [[0], [1, 1], [1, 0], [4, 0, 0, 1, 1], [1, 1], [2, 0, 1]])

    def test_farthest(self):
        self.assertEqual(ask(way(1, 200)), [[199] + [0] * 199])
        self.assertEqual(ask(way(200, 1)), [[199] + [1] * 199])
        self.assertEqual(ask(way(199, 200)), [[199, 0] + [1] * 198])
        self.assertEqual(ask(way(200, 199)), [[199, 1] + [0] * 198])
        self.assertEqual(ask(way(144, 89)), [[10, 1, 0, 1, 0, 1, 0, 1, 0, 1, 0]])

    def test_all(self):
        span = range(1, 201)
        told = [(a, b) for a in span for b in span]
        longest = 0
        for (a, b), answer in zip(told, ask_many([way(a, b) for a, b in told])):
            turns = answer[1:]
            self.assertEqual(answer[0], len(turns), (a, b))
            self.assertEqual(turns, way_by_taking_away(a, b), (a, b))
            divisor = gcd(a, b)
            self.assertEqual(walked(turns), (a // divisor, b // divisor))
            longest = max(longest, len(turns))
        self.assertEqual(longest, 199)

    def test_way_to_the_simplest_is_the_way_to_a_fraction(self):
        for told in [(1, 3, 1, 2), (0, 1, 1, 1), (22, 51, 4, 9), (98, 99, 99, 100), (5, 1, 11, 2), (0, 3, 1, 5)]:
            upper, lower, *turns = ask(simplest(*told))[0]
            self.assertEqual(ask(way(upper, lower)), [turns], told)

    def test_refused(self):
        for wrong in [0, 201, 202, 1000, 2 ** 63, TOP - 1, TOP]:
            for good in [1, 2, 200]:
                self.assertEqual(ask(way(wrong, good), way(good, wrong)), [[-1], [-1]], (wrong, good))
            self.assertEqual(ask(way(wrong, wrong), way(0, wrong), way(wrong, 0)), [[-1], [-1], [-1]], wrong)

    def test_1_and_200_are_none(self):
        for a in (1, 200):
            for b in (1, 200):
                self.assertGreaterEqual(ask(way(a, b))[0][0], 0)

    def test_cone_stays(self):
        asked = [LEAST, SAIL, KIND, DUAL]
        for first in [[], [begin((1, 0), (3, 5))], [begin(*GREATEST[0])]]:
            before = ask(*first, *asked)
            after = ask(*first, way(3, 7), way(0, 1), way(TOP, TOP), *asked)
            self.assertEqual(after[:len(first)] + after[len(first) + 3:], before)
            self.assertEqual(after[len(first):len(first) + 3], [[4, 0, 0, 1, 1], [-1], [-1]])


if __name__ == "__main__":
    unittest.main()
