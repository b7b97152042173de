"""A cone by its two ends: its least points, their numbers, what they tell, the sail's corners, the dual and the kind.

A point is a pair (x, y). The ends u and v of a cone have no common divisor above 1, and cross(u, v),
its n, is above 0.
"""


def cross(p, r):
    """p1 r2 less p2 r1: above 0 just if r is counterclockwise from p by less than half round."""
    return p[0] * r[1] - p[1] * r[0]


def common_divisor(point):
    """The greatest number that goes into both numbers of the point; 0 for the origin."""
    greater = abs(point[0])
    lesser = abs(point[1])
    while lesser != 0:
        rest = greater % lesser
        greater = lesser
        lesser = rest
    return greater


def beside(u):
    """Some point w such that cross(u, w) is 1."""
    if u[0] == 0:
        return (-u[1], 0)
    # As u has no common divisor above 1, the walk ends before x is as great as u[0] without its sign.
    x = 0
    while (1 + u[1] * x) % u[0] != 0:
        x = x + 1
    return (x, (1 + u[1] * x) // u[0])


def second_point(u, v):
    """The second of the least points of the cone from u to v."""
    w = beside(u)
    # The points with cross 1 to u are u apart. The cone has those with cross 0 or more to v,
    # and each of these but the one with the least cross is another one and u together.
    times = cross(w, v) // cross(u, v)
    return (w[0] - times * u[0], w[1] - times * u[1])


def least_points(u, v):
    """The least points, counterclockwise from u to v."""
    points = [u]
    # Behind each least point come the least points of the cone from it to v.
    while points[-1] != v:
        points.append(second_point(points[-1], v))
    return points


def numbers_of(points):
    """How often each least point but the ends goes into its two neighbours together."""
    # If x and z together are k times y, then cross(x, z) is k times cross(x, y), which is 1.
    return [cross(points[i - 1], points[i + 1]) for i in range(1, len(points) - 1)]


def told_by(points, point):
    """The number of the first least point that tells this point with the next one, and how often each; or nothing."""
    for i in range(len(points) - 1):
        # Of neighbours x and y cross(x, y) is 1, so a point p is cross(p, y) times x and cross(x, p) times y.
        first = cross(point, points[i + 1])
        second = cross(points[i], point)
        if first >= 0 and second >= 0:
            return [i, first, second]
    return []


def corners_of(points):
    """The sail's corners, out of the least points."""
    numbers = numbers_of(points)
    corners = [points[0]]
    for i in range(len(numbers)):
        if numbers[i] > 2:
            corners.append(points[i + 1])
    corners.append(points[-1])
    return corners


def dual_ends(u, v):
    """The ends of the cone's dual, the first and the second."""
    return [(v[1], -v[0]), (-u[1], u[0])]


def q_of(u, v):
    """q from 0 to below n: v is n times the second least point less q times u."""
    return cross(second_point(u, v), v)


def changed(point):
    """The point with x and y changed."""
    return (point[1], point[0])


def kind_of(u, v):
    """n, q, and q of the other kind."""
    # Changing x and y turns the way round, so the ends change places as well.
    return [cross(u, v), q_of(u, v), q_of(changed(v), changed(u))]
