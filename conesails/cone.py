"""A line's calls about one cone, read from one list and answered in one list."""

from conesails.points import common_divisor, corners_of, cross, kind_of, least_points, numbers_of

FARTHEST = 40

BEGIN = 1
LEAST = 2
SAIL = 3
KIND = 4
LIKE = 5

# By a call's number: how many rows stand behind it.
ROWS = {1: 2, 2: 0, 3: 0, 4: 0, 5: 2}


class Cone:
    """The cone that a line's calls are about; each call answers a list of numbers."""

    def __init__(self):
        self.u = (1, 0)
        self.v = (0, 1)

    def begin(self, plus, minus):
        """Take the cone that the lists tell: its n."""
        refused = refusal(plus, minus)
        if refused < 0:
            return [refused]
        self.u = point_at(plus, minus, 0)
        self.v = point_at(plus, minus, 2)
        return [cross(self.u, self.v)]

    def least(self):
        """How many least points, these, their numbers."""
        points = least_points(self.u, self.v)
        return [len(points)] + flat(points) + numbers_of(points)

    def sail(self):
        """How many corners, these."""
        corners = corners_of(least_points(self.u, self.v))
        return [len(corners)] + flat(corners)

    def kind(self):
        """n, q, q of the other kind."""
        return kind_of(self.u, self.v)

    def like(self, plus, minus):
        """1 if the cone that the lists tell is alike, else 0."""
        refused = refusal(plus, minus)
        if refused < 0:
            return [refused]
        mine = kind_of(self.u, self.v)
        told = kind_of(point_at(plus, minus, 0), point_at(plus, minus, 2))
        if mine[0] == told[0] and mine[1] in (told[1], told[2]):
            return [1]
        return [0]


def point_at(plus, minus, place):
    """The point whose x stands at this place of the lists, and its y behind it."""
    return (plus[place] - minus[place], plus[place + 1] - minus[place + 1])


def refusal(plus, minus):
    """Why the lists don't tell a cone: -3, -1 or -4, the first that holds; 0 if they do."""
    if len(plus) != 4 or len(minus) != 4:
        return -3
    u = point_at(plus, minus, 0)
    v = point_at(plus, minus, 2)
    if max(abs(u[0]), abs(u[1]), abs(v[0]), abs(v[1])) > FARTHEST:
        return -1
    if common_divisor(u) != 1 or common_divisor(v) != 1 or cross(u, v) <= 0:
        return -4
    return 0


def flat(points):
    """The numbers of the points, one behind another."""
    numbers = []
    for point in points:
        numbers.append(point[0])
        numbers.append(point[1])
    return numbers


def rows_at(calls, place, many):
    """So many rows, the first of which has its length at this place."""
    rows = []
    start = place
    while len(rows) < many:
        row = calls[start + 1:start + 1 + calls[start]]
        rows.append(row)
        start = start + 1 + len(row)
    return rows


def answer(cone, call, rows):
    """What the cone answers to one call."""
    if call == BEGIN:
        return cone.begin(rows[0], rows[1])
    if call == LEAST:
        return cone.least()
    if call == SAIL:
        return cone.sail()
    if call == KIND:
        return cone.kind()
    return cone.like(rows[0], rows[1])


def answers(calls):
    """For each call, in order, how many numbers are answered, then these."""
    cone = Cone()
    answered = []
    place = 0
    while place < len(calls):
        rows = rows_at(calls, place + 1, ROWS[calls[place]])
        numbers = answer(cone, calls[place], rows)
        answered.append(len(numbers))
        answered.extend(numbers)
        place = place + 1
        for row in rows:
            place = place + 1 + len(row)
    return answered
