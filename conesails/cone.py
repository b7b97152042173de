"""A line's calls about one cone, read from one list and answered in one list."""

from conesails.points import common_divisor, corners_of, cross, dual_ends, kind_of, least_points, numbers_of, told_by
from conesails.ways import is_below, walk_between, walk_to

FARTHEST_END = 40
FARTHEST_TOLD = 1600
GREATEST = 200

BEGIN = 1
LEAST = 2
SAIL = 3
KIND = 4
LIKE = 5
DUAL = 6
TOLD = 7
SIMPLEST = 8

# By a call's number: how many whole numbers stand right behind it, and how many rows behind these.
NUMBERS = {1: 0, 2: 0, 3: 0, 4: 0, 5: 0, 6: 0, 7: 0, 8: 4, 9: 2}
ROWS = {1: 2, 2: 0, 3: 0, 4: 0, 5: 2, 6: 0, 7: 2, 8: 0, 9: 0}


class Cone:
    """The cone that a line's calls are about; each call answers a list of numbers."""

    def __init__(self):
        self.u = (1, 0)
        self.v = (0, 1)

    def begin(self, plus, minus):
        """Take the cone that the lists tell: its n."""
        refused = cone_refusal(plus, minus)
        if refused < 0:
            return [refused]
        self.u = point_at(plus, minus, 0)
        self.v = point_at(plus, minus, 2)
        return [cross(self.u, self.v)]

    def least(self):
        """How many least points, these, their numbers."""
        return least_of(self.u, self.v)

    def sail(self):
        """How many corners, these."""
        corners = corners_of(least_points(self.u, self.v))
        return [len(corners)] + flat(corners)

    def kind(self):
        """n, q, q of the other kind."""
        return kind_of(self.u, self.v)

    def like(self, plus, minus):
        """1 if the cone that the lists tell is alike, else 0."""
        refused = cone_refusal(plus, minus)
        if refused < 0:
            return [refused]
        mine = kind_of(self.u, self.v)
        other = kind_of(point_at(plus, minus, 0), point_at(plus, minus, 2))
        if mine[0] == other[0] and mine[1] in (other[1], other[2]):
            return [1]
        return [0]

    def dual(self):
        """How many least points the dual has, these, their numbers."""
        ends = dual_ends(self.u, self.v)
        return least_of(ends[0], ends[1])

    def told(self, plus, minus):
        """1, then which two neighbours tell the point, and how often each; 0 if the cone hasn't it."""
        refused = point_refusal(plus, minus)
        if refused < 0:
            return [refused]
        found = told_by(least_points(self.u, self.v), point_at(plus, minus, 0))
        if len(found) == 0:
            return [0]
        return [1] + found


def simplest(first, second):
    """The upper number of the simplest between the fractions, the lower one, how long the way is, it."""
    if max(first[0], first[1], second[0], second[1]) > GREATEST or first[1] == 0:
        return [-1]
    if not is_below(first, second):
        return [-4]
    walk = walk_between(first, second)
    looked = walk.looked_at()
    return [looked[0], looked[1], len(walk.turns)] + walk.turns


def way(goal):
    """How long the way to the fraction is, then it."""
    if min(goal[0], goal[1]) < 1 or max(goal[0], goal[1]) > GREATEST:
        return [-1]
    walk = walk_to(goal)
    return [len(walk.turns)] + walk.turns


def least_of(u, v):
    """How many least points the cone with these ends has, these, their numbers."""
    points = least_points(u, v)
    return [len(points)] + flat(points) + numbers_of(points)


def point_at(plus, minus, place):
    """The point whose x stands at this place of the lists, and its y behind it."""
    return (plus[place] - minus[place], plus[place + 1] - minus[place + 1])


def is_beyond(point, farthest):
    """Whether a number of the point is farther from 0 than this."""
    return max(abs(point[0]), abs(point[1])) > farthest


def cone_refusal(plus, minus):
    """Why the lists don't tell a cone: -3, -1 or -4, the first that holds; 0 if they do."""
    if len(plus) != 4 or len(minus) != 4:
        return -3
    u = point_at(plus, minus, 0)
    v = point_at(plus, minus, 2)
    if is_beyond(u, FARTHEST_END) or is_beyond(v, FARTHEST_END):
        return -1
    if common_divisor(u) != 1 or common_divisor(v) != 1 or cross(u, v) <= 0:
        return -4
    return 0


def point_refusal(plus, minus):
    """Why the lists don't tell a point to be told: -3 or -1, the first that holds; 0 if they do."""
    if len(plus) != 2 or len(minus) != 2:
        return -3
    if is_beyond(point_at(plus, minus, 0), FARTHEST_TOLD):
        return -1
    return 0


def flat(points):
    """The numbers of the points, one behind another."""
    numbers = []
    for point in points:
        numbers.append(point[0])
        numbers.append(point[1])
    return numbers


def rows_at(calls, place, many):
    """So many rows, the first of which has its length at this place."""
    rows = []
    start = place
    while len(rows) < many:
        row = calls[start + 1:start + 1 + calls[start]]
        rows.append(row)
        start = start + 1 + len(row)
    return rows


def answer(cone, call, numbers, rows):
    """What is answered to one call, with the whole numbers and the rows behind it."""
    if call == BEGIN:
        return cone.begin(rows[0], rows[1])
    if call == LEAST:
        return cone.least()
    if call == SAIL:
        return cone.sail()
    if call == KIND:
        return cone.kind()
    if call == LIKE:
        return cone.like(rows[0], rows[1])
    if call == DUAL:
        return cone.dual()
    if call == TOLD:
        return cone.told(rows[0], rows[1])
    if call == SIMPLEST:
        return simplest((numbers[0], numbers[1]), (numbers[2], numbers[3]))
    return way((numbers[0], numbers[1]))


def answers(calls):
    """For each call, in order, how many numbers are answered, then these."""
    cone = Cone()
    answered = []
    place = 0
    while place < len(calls):
        call = calls[place]
        behind = place + 1 + NUMBERS[call]
        rows = rows_at(calls, behind, ROWS[call])
        found = answer(cone, call, calls[place + 1:behind], rows)
        answered.append(len(found))
        answered.extend(found)
        place = behind
        for row in rows:
            place = place + 1 + len(row)
    return answered
