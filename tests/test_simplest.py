"""simplest: the simplest fraction between two, and the way to it; promise 6."""

import unittest

from helper import DUAL, GREATEST, KIND, LEAST, SAIL, TOP, ask, ask_many, begin, simplest, walked


def least_by_lower(a, b, c, d):
    """The fraction between that has the least lower number, and of these the least upper one, by trying."""
    lower = 1
    while True:
        upper = a * lower // b + 1
        if upper * d < c * lower:
            return upper, lower
        lower += 1


def least_by_upper(a, b, c, d):
    """The fraction between that has the least upper number, and of these the least lower one, by trying."""
    # Nothing with 0 above is above a by b.
    upper = 1
    while True:
        lower = upper * d // c + 1
        if a * lower < upper * b:
            return upper, lower
        upper += 1


def below(a, b, c, d):
    return a * d < c * b


class SimplestTest(unittest.TestCase):
    def check(self, fractions):
        """Each answer of these against searches over all lower, and all upper numbers; how long the ways are."""
        longest = 0
        for told, answer in zip(fractions, ask_many([simplest(*told) for told in fractions])):
            upper, lower, many = answer[:3]
            self.assertEqual((upper, lower), least_by_lower(*told), told)
            self.assertEqual((upper, lower), least_by_upper(*told), told)
            self.assertEqual(len(answer), 3 + many, told)
            self.assert_way(told, (upper, lower), answer[3:])
            longest = max(longest, many)
        return longest

    def assert_way(self, told, looked, turns):
        """That each turn is as what is looked at asks, and that the way ends there."""
        self.assertEqual(walked(turns), looked, told)
        a, b, c, d = told
        (under_upper, under_lower), (over_upper, over_lower) = (0, 1), (1, 0)
        for turn in turns:
            upper, lower = under_upper + over_upper, under_lower + over_lower
            if upper * b <= a * lower:
                self.assertEqual(turn, 1, told)
                under_upper, under_lower = upper, lower
            else:
                self.assertGreaterEqual(upper * d, c * lower, told)
                self.assertEqual(turn, 0, told)
                over_upper, over_lower = upper, lower

    def test_written_out(self):
        found = ask(simplest(1, 2, 1, 1), simplest(1, 3, 1, 2), simplest(5, 2, 7, 2), simplest(3, 7, 22, 51),
                    simplest(2, 3, 13, 19), simplest(7, 10, 5, 7), simplest(2, 1, 4, 1))
        self.assertEqual(found, [[2, 3, 2, 0, 1], [2, 5, 3, 0, 0, 1], [3, 1, 2, 1, 1],
                                 [25, 58, 12, 0, 0, 1, 1, 1, 0, 0, 0, 0, 0, 0, 0],
                                 [15, 22, 9, 0, 1, 1, 0, 0, 0, 0, 0, 0], [12, 17, 6, 0, 1, 1, 0, 0, 1],
                                 [3, 1, 2, 1, 1]])

    def test_no_step(self):
        # 1 by 1 is between.
        fractions = [(0, 1, 1, 0), (0, 1, 2, 1), (1, 2, 2, 1), (1, 2, 3, 2), (0, 200, 200, 1), (199, 200, 200, 199),
                     (0, 5, 200, 0), (99, 100, 101, 100), (0, 1, 200, 199)]
        for answer in ask(*[simplest(*told) for told in fractions]):
            self.assertEqual(answer, [1, 1, 0])
        # Just not between, as it is one of the two itself.
        self.assertEqual(ask(simplest(0, 1, 1, 1), simplest(1, 1, 2, 1), simplest(1, 1, 1, 0), simplest(5, 5, 2, 1),
                             simplest(0, 1, 9, 9)),
                         [[1, 2, 1, 0], [3, 2, 2, 1, 0], [2, 1, 1, 1], [3, 2, 2, 1, 0], [1, 2, 1, 0]])

    def test_second_one_beyond_all(self):
        self.assertEqual(ask(simplest(0, 1, 1, 0), simplest(1, 1, 5, 0), simplest(7, 2, 200, 0), simplest(3, 1, 1, 0)),
                         [[1, 1, 0], [2, 1, 1, 1], [4, 1, 3, 1, 1, 1], [4, 1, 3, 1, 1, 1]])
        self.assertEqual(ask(simplest(200, 1, 1, 0)), [[201, 1, 200] + [1] * 200])
        self.assertEqual(ask(simplest(200, 1, 200, 0)), [[201, 1, 200] + [1] * 200])

    def test_first_one_0(self):
        self.assertEqual(ask(simplest(0, 1, 1, 200)), [[1, 201, 200] + [0] * 200])
        self.assertEqual(ask(simplest(0, 200, 1, 200)), [[1, 201, 200] + [0] * 200])
        self.assertEqual(ask(simplest(0, 7, 2, 3), simplest(0, 7, 1, 3)), [[1, 2, 1, 0], [1, 4, 3, 0, 0, 0]])

    def test_common_divisor(self):
        found = ask(simplest(2, 4, 2, 3), simplest(1, 2, 4, 6), simplest(100, 200, 132, 198), simplest(1, 2, 2, 3))
        self.assertEqual(found, [[3, 5, 3, 0, 1, 0]] * 4)
        found = ask(simplest(6, 4, 10, 5), simplest(3, 2, 2, 1), simplest(0, 10, 20, 40), simplest(0, 1, 1, 2))
        self.assertEqual(found, [[5, 3, 3, 1, 0, 1]] * 2 + [[1, 3, 2, 0, 0]] * 2)

    def test_all_small_ones(self):
        span = range(9)
        fractions = [(a, b, c, d) for a in span for b in span[1:] for c in span for d in span if below(a, b, c, d)]
        self.assertGreater(len(fractions), 2500)
        self.check(fractions)

    def test_many(self):
        fractions = []
        for k in range(20000):
            told = (k * 37 % 201, 1 + k * 53 % 200, k * 71 % 199 + k % 3, k * 29 % 201)
            if below(*told):
                fractions.append(told)
        self.assertGreater(len(fractions), 5000)
        self.check(fractions)

    def test_near_each_other(self):
        # Two in a row of all fractions that are told by numbers up to 200 are the hardest.
        row = [(0, 1), (1, 200)]
        while row[-1] != (1, 0):
            (a, b), (c, d) = row[-2:]
            # The next one is so and so often the last less the one before, as often as both stay up to 200.
            often = min([(200 + x) // y for x, y in [(a, c), (b, d)] if y > 0])
            row.append((often * c - a, often * d - b))
        self.assertGreater(len(row), 24000)
        longest = self.check([first + second for first, second in zip(row, row[1:])][::3])
        self.assertLessEqual(longest, 200)
        steps = [first + second for first, second in zip(row, row[2:])]
        self.assertLessEqual(self.check(steps[::17]), 200)

    def test_longest_ways(self):
        found = ask(simplest(0, 1, 1, 200), simplest(0, 1, 1, 199), simplest(198, 199, 199, 200),
                    simplest(199, 1, 200, 1), simplest(1, 200, 1, 199), simplest(200, 199, 199, 198),
                    simplest(200, 1, 1, 0))
        self.assertEqual(found, [[1, 201, 200] + [0] * 200, [1, 200, 199] + [0] * 199,
                                 [397, 399, 200, 0] + [1] * 198 + [0], [399, 2, 200] + [1] * 199 + [0],
                                 [2, 399, 200] + [0] * 199 + [1], [399, 397, 200, 1] + [0] * 198 + [1],
                                 [201, 1, 200] + [1] * 200])


class RefusalTest(unittest.TestCase):
    def refused(self, told, refusal):
        self.assertEqual(ask(simplest(*told)), [[refusal]], told)

    def test_above_200(self):
        good = [(0, 1, 1, 1), (1, 2, 2, 3), (5, 4, 200, 0)]
        for far in [201, 202, 400, 2 ** 32, 2 ** 63, TOP - 1, TOP]:
            for told in good:
                for place in range(4):
                    numbers = list(told)
                    numbers[place] = far
                    self.refused(numbers, -1)
        self.refused((TOP, TOP, TOP, TOP), -1)

    def test_200_is_none(self):
        self.assertEqual(ask(simplest(200, 200, 200, 1), simplest(200, 1, 200, 0), simplest(0, 200, 200, 200),
                             simplest(199, 200, 200, 199), simplest(0, 1, 1, 200), simplest(200, 199, 200, 198),
                             simplest(200, 200, 200, 200)),
                         [[2, 1, 1, 1], [201, 1, 200] + [1] * 200, [1, 2, 1, 0], [1, 1, 0], [1, 201, 200] + [0] * 200,
                          [101, 100, 100, 1] + [0] * 99, [-4]])

    def test_0_below_the_first(self):
        for a in [0, 1, 7, 200]:
            for c, d in [(0, 1), (1, 1), (1, 0), (0, 0), (200, 200)]:
                self.refused((a, 0, c, d), -1)

    def test_equal_ones(self):
        for told in [(1, 2, 1, 2), (1, 2, 2, 4), (2, 4, 1, 2), (0, 1, 0, 1), (0, 1, 0, 5), (0, 200, 0, 1),
                     (1, 1, 1, 1), (200, 200, 1, 1), (3, 1, 198, 66)]:
            self.refused(told, -4)

    def test_above(self):
        for told in [(1, 1, 1, 2), (2, 1, 1, 1), (1, 199, 1, 200), (200, 1, 199, 1), (2, 3, 64, 97), (1, 1, 0, 1),
                     (200, 199, 199, 199)]:
            self.refused(told, -4)

    def test_0_by_0(self):
        for a, b in [(0, 1), (1, 1), (200, 1), (5, 5), (0, 200), (200, 200)]:
            self.refused((a, b, 0, 0), -4)

    def test_all_small_ones(self):
        span = range(6)
        told = [(a, b, c, d) for a in span for b in span for c in span for d in span]
        for (a, b, c, d), answer in zip(told, ask_many([simplest(*numbers) for numbers in told])):
            if b == 0:
                self.assertEqual(answer, [-1])
            elif a * d >= c * b:
                self.assertEqual(answer, [-4])
            else:
                self.assertGreaterEqual(answer[0], 1)

    def test_the_one_told_first(self):
        # Not below, too: -1 all the same.
        for told in [(201, 1, 1, 1), (1, 1, 1, 201), (1, 0, 1, 0), (0, 0, 0, 0), (201, 201, 201, 201),
                     (TOP, 1, 0, 0), (1, 0, 0, 1), (5, 1, 0, TOP), (0, 201, 0, 0)]:
            self.refused(told, -1)

    def test_cone_stays(self):
        asked = [LEAST, SAIL, KIND, DUAL]
        calls = [simplest(1, 3, 1, 2), simplest(1, 0, 1, 0), simplest(1, 1, 1, 1), simplest(TOP, TOP, TOP, TOP)]
        for first in [[], [begin((1, 0), (3, 5))], [begin(*GREATEST[0])]]:
            before = ask(*first, *asked)
            after = ask(*first, *calls, *asked)
            self.assertEqual(after[:len(first)] + after[len(first) + 4:], before)
            self.assertEqual(after[len(first):len(first) + 4], [[2, 5, 3, 0, 0, 1], [-1], [-4], [-1]])


if __name__ == "__main__":
    unittest.main()
