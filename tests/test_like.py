"""like: 1 just if a whole map takes the one cone to the other; the first half of promise 4."""

import unittest

from helper import (GREATEST, KIND, LEAST, ask, ask_of_cones, begin, cross, least_apart, like, small_cones, some_cones,
                    two_lists, rows)

TURNS = [(1, 0, 0, 1), (0, -1, 1, 0), (1, 1, 0, 1), (2, 1, 1, 1), (-1, 0, 0, -1), (3, -2, -1, 1)]
FLIPS = [(0, 1, 1, 0), (1, 0, 0, -1), (-1, 0, 0, 1), (1, 1, 0, -1), (2, 1, 1, 0), (1, 2, 1, 1)]


def mapped(change, p):
    a, b, c, d = change
    return (a * p[0] + b * p[1], c * p[0] + d * p[1])


def takes(u, v, to_u, to_v):
    """Whether a whole map with a d less b c being 1 or -1 takes u to to_u and v to to_v."""
    n = cross(u, v)
    # What the map does to u and v tells a, b, c and d, n times over.
    told = []
    for i in (0, 1):
        told.append(to_u[i] * v[1] - to_v[i] * u[1])
        told.append(to_v[i] * u[0] - to_u[i] * v[0])
    if any(k % n != 0 for k in told):
        return False
    a, b, c, d = [k // n for k in told]
    return a * d - b * c in (1, -1)


def like_by_words(u, v, to_u, to_v):
    # A map that takes cone to cone takes ends to ends, straight or crosswise.
    return int(takes(u, v, to_u, to_v) or takes(u, v, to_v, to_u))


class LikeTest(unittest.TestCase):
    def test_the_maps_are_as_said(self):
        self.assertEqual({a * d - b * c for a, b, c, d in TURNS}, {1})
        self.assertEqual({a * d - b * c for a, b, c, d in FLIPS}, {-1})

    def test_beginning(self):
        found = ask(like((1, 0), (0, 1)), like((2, 3), (1, 2)), like((1, 2), (2, 3)), like((0, -1), (1, 0)),
                    like((1, 0), (-1, 2)))
        self.assertEqual(found, [[1], [1], [-4], [1], [0]])

    def test_written_out(self):
        found = ask(begin((1, 0), (3, 5)), like((1, 0), (3, 5)), like((1, 0), (2, 5)), like((1, 0), (1, 5)),
                    like((1, 0), (4, 5)), like((1, 0), (3, 4)), like((1, 0), (3, 7)))
        self.assertEqual(found, [[5], [1], [1], [0], [0], [0], [0]])

    def test_other_q_is_taken_for_q(self):
        # q 3 and other q 5 by n 7: the one is alike with the other, both with no third.
        found = ask(begin((1, 0), (4, 7)), KIND, like((1, 0), (2, 7)), like((1, 0), (4, 7)), like((1, 0), (5, 7)))
        self.assertEqual(found, [[7], [7, 3, 5], [1], [1], [0]])

    def test_small_cones_by_words(self):
        cones = small_cones(3)
        seen = {0: 0, 1: 0}
        for u, v in cones[::9]:
            for start in range(0, len(cones), 59):
                part = cones[start:start + 59]
                found = ask(begin(u, v), *[like(s, t) for s, t in part])[1:]
                for (s, t), answer in zip(part, found):
                    self.assertEqual(answer, [like_by_words(u, v, s, t)], (u, v, s, t))
                    seen[answer[0]] += 1
        self.assertGreater(min(seen.values()), 1000)

    def test_maps_with_1(self):
        self.maps_keep_it(TURNS, False)

    def test_maps_with_minus_1(self):
        self.maps_keep_it(FLIPS, True)

    def maps_keep_it(self, maps, crosswise):
        tried = 0
        for u, v in some_cones()[::7] + small_cones(4)[::5] + GREATEST:
            for change in maps:
                to_u, to_v = mapped(change, u), mapped(change, v)
                if crosswise:
                    to_u, to_v = to_v, to_u
                if max(abs(k) for k in to_u + to_v) <= 40:
                    self.assertEqual(ask(begin(u, v), like(to_u, to_v))[1], [1], (u, v, change))
                    tried += 1
        self.assertGreater(tried, 500)

    def test_just_if_the_kinds_say_so(self):
        cones = some_cones() + GREATEST
        kinds = ask_of_cones(cones, KIND)
        by_n = {}
        for cone, kind in zip(cones, kinds):
            by_n.setdefault(kind[0], []).append((cone, kind))
        seen = {0: 0, 1: 0}
        for alike_n in by_n.values():
            (u, v), (_, q, other) = alike_n[0]
            for (s, t), (_, there, other_there) in alike_n[1:]:
                expected = int(there == q or other_there == q)
                self.assertEqual(expected, like_by_words(u, v, s, t))
                self.assertEqual(ask(begin(u, v), like(s, t))[1], [expected], (u, v, s, t))
                seen[expected] += 1
        self.assertGreater(min(seen.values()), 20)

    def test_cone_stays(self):
        found = ask(begin((1, 0), (3, 5)), LEAST, like((1, 0), (2, 5)), LEAST, like((0, 1), (-7, -3)), LEAST,
                    like((1, 0), (1, 0)), LEAST)
        self.assertEqual(least_apart(found[1])[0], [(1, 0), (1, 1), (2, 3), (3, 5)])
        self.assertEqual(found[3], found[1])
        self.assertEqual(found[5], found[1])
        self.assertEqual(found[7], found[1])

    def test_lists_with_the_same_differences(self):
        plus, minus = two_lists([1, 0, 3, 5])
        far = 2 ** 64 - 41
        found = ask(begin((1, 0), (2, 5)), rows(5, plus, minus),
                    rows(5, [k + far for k in plus], [k + far for k in minus]))
        self.assertEqual(found, [[5], [1], [1]])


if __name__ == "__main__":
    unittest.main()
