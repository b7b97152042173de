"""What the tests share: making calls, taking answers apart, and cones by the document's words."""

from math import gcd

from conesails.cone import answers

LEAST = [2]
SAIL = [3]
KIND = [4]
DUAL = [6]
TOP = 2 ** 64 - 1


def rows(call, plus, minus):
    return [call, len(plus)] + list(plus) + [len(minus)] + list(minus)


def two_lists(numbers):
    """plus and minus such that the one less the other is these numbers."""
    return [max(k, 0) for k in numbers], [max(-k, 0) for k in numbers]


def begin(u, v):
    plus, minus = two_lists([u[0], u[1], v[0], v[1]])
    return rows(1, plus, minus)


def like(u, v):
    plus, minus = two_lists([u[0], u[1], v[0], v[1]])
    return rows(5, plus, minus)


def told(p):
    plus, minus = two_lists(p)
    return rows(7, plus, minus)


def simplest(a, b, c, d):
    return [8, a, b, c, d]


def way(a, b):
    return [9, a, b]


def apart(answered):
    """The answers, each a list of its own."""
    found = []
    place = 0
    while place < len(answered):
        many = answered[place]
        part = answered[place + 1:place + 1 + many]
        assert many >= 1 and len(part) == many
        found.append(part)
        place += 1 + many
    return found


def ask(*calls):
    """The answers to these calls on one new object."""
    line = []
    for call in calls:
        line += call
    found = apart(answers(line))
    assert len(found) == len(calls)
    return found


def ask_many(calls):
    """The answers to any number of calls that need nothing of each other, a line's 60 at a time."""
    found = []
    for start in range(0, len(calls), 60):
        found += ask(*calls[start:start + 60])
    return found


def ask_of_cones(cones, call):
    """The answer to this call of each of the cones."""
    found = []
    for start in range(0, len(cones), 30):
        line = []
        for u, v in cones[start:start + 30]:
            line += [begin(u, v), call]
        found += ask(*line)[1::2]
    return found


def least_apart(answer):
    """Points and numbers out of what least answers."""
    many = answer[0]
    assert len(answer) == 1 + 2 * many + many - 2
    points = [tuple(answer[1 + 2 * i:3 + 2 * i]) for i in range(many)]
    return points, answer[1 + 2 * many:]


def walked(turns):
    """What is looked at behind these turns, from between 0 by 1 and 1 by 0."""
    under, over = (0, 1), (1, 0)
    for turn in turns:
        looked = together(under, over)
        if turn == 1:
            under = looked
        else:
            over = looked
    return together(under, over)


def cross(p, r):
    return p[0] * r[1] - p[1] * r[0]


def together(p, r):
    return (p[0] + r[0], p[1] + r[1])


def less(p, r):
    return (p[0] - r[0], p[1] - r[1])


def has(u, v, p):
    """Whether the cone has the point."""
    return cross(u, p) >= 0 and cross(p, v) >= 0


def ends(most):
    """All points that may be ends, with no number beyond this."""
    span = range(-most, most + 1)
    return [(x, y) for x in span for y in span if gcd(x, y) == 1]


def dual_ends(u, v):
    return (v[1], -v[0]), (-u[1], u[0])


def small_cones(most):
    points = ends(most)
    return [(u, v) for u in points for v in points if cross(u, v) > 0]


def some_cones():
    """Cones out of all that there are, some thousands, strewn over them."""
    points = ends(40)
    return [(u, v) for u in points[::41] for v in points[::43] if cross(u, v) > 0]


# The greatest n that ends within 40 allow is 3121, and these have it.
GREATEST = [((40, -39), (39, 40)), ((39, 40), (-40, 39)), ((-40, 39), (-39, -40)), ((39, -40), (40, 39))]


def least_by_words(u, v):
    """The points that aren't two others together, counterclockwise, found by trying all.

    A least point is u so often and v so often together, neither more than once (else u or v could be
    taken from it); and what makes up such a point lies within the same bounds.
    """
    n = cross(u, v)
    most = max(abs(k) for k in u + v) * 2
    span = range(-most, most + 1)
    points = {(x, y) for x in span for y in span
              if 0 <= cross(u, (x, y)) <= n and 0 <= cross((x, y), v) <= n and (x, y) != (0, 0)}
    found = [p for p in points if not any(less(p, r) in points for r in points)]
    # Of two points within one cone the one with the greater share of u stands first.
    found.sort(key=lambda p: Share(cross(p, v), cross(u, p)), reverse=True)
    return found


class Share:
    """How great the first number is beside the second; both are 0 or above."""

    def __init__(self, first, second):
        self.first = first
        self.second = second

    def __lt__(self, other):
        return self.first * other.second < other.first * self.second


def numbers_by_words(points):
    """How often each point but the ends goes into its neighbours together, by trying."""
    numbers = []
    for before, point, behind in zip(points, points[1:], points[2:]):
        both = together(before, behind)
        numbers.append(next(k for k in range(200) if (k * point[0], k * point[1]) == both))
    return numbers


def check_neighbours(test, points, numbers):
    """Promise 2, and that each number is how often the point goes into its neighbours together."""
    test.assertEqual(len(numbers), len(points) - 2, points)
    for x, y in zip(points, points[1:]):
        test.assertEqual(cross(x, y), 1, points)
    for i, k in enumerate(numbers):
        test.assertGreaterEqual(k, 2, points)
        test.assertEqual(together(points[i], points[i + 2]), (k * points[i + 1][0], k * points[i + 1][1]))


def check_they_make_all(test, points, most):
    """That the least points make all points of their cone with no number beyond this, and nothing else."""
    u, v = points[0], points[-1]
    span = range(-most, most + 1)
    test.assertTrue(all(has(u, v, w) and w != (0, 0) for w in points), points)
    for p in [(x, y) for x in span for y in span if has(u, v, (x, y))]:
        # What is left is nearer to the origin between u and v, so taking away ends there.
        while p != (0, 0):
            left = [less(p, w) for w in points if has(u, v, less(p, w))]
            test.assertTrue(left, (points, p))
            p = left[0]


def check_none_can_be_spared(test, points):
    u, v = points[0], points[-1]
    for w in points:
        # Were w two others together, one other least point could be taken from it within the cone.
        test.assertFalse(any(has(u, v, less(w, r)) for r in points if r != w), points)
