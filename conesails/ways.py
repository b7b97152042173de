"""Fractions, the simplest between two, and the ways that lead to them.

A fraction is a pair (upper, lower) of whole numbers from 0 on; with 0 below it is beyond all.
"""

LEFT = 0
RIGHT = 1


class Walk:
    """A walk that begins between 0 by 1 and 1 by 0: its turns, and what it looks at behind them."""

    def __init__(self):
        self.under = (0, 1)
        self.over = (1, 0)
        self.turns = []

    def looked_at(self):
        """The fraction whose upper and lower numbers are those of both together."""
        return (self.under[0] + self.over[0], self.under[1] + self.over[1])

    def go(self, turn):
        """Let what is looked at be the lower one if it goes right, else the upper one."""
        if turn == RIGHT:
            self.under = self.looked_at()
        else:
            self.over = self.looked_at()
        self.turns.append(turn)


def is_below(first, second):
    """Whether the first fraction is below the second one; 0 by 0 is neither below nor above another."""
    return first[0] * second[1] < second[0] * first[1]


def walk_between(first, second):
    """The walk to the simplest fraction above the first and below the second one, the first being below the second."""
    walk = Walk()
    looked = walk.looked_at()
    while not (is_below(first, looked) and is_below(looked, second)):
        if is_below(first, looked):
            walk.go(LEFT)
        else:
            walk.go(RIGHT)
        looked = walk.looked_at()
    return walk


def walk_to(goal):
    """The walk to a fraction whose upper and lower numbers are both above 0."""
    walk = Walk()
    looked = walk.looked_at()
    # The goal may have a common divisor above 1, so it is met by its worth, not by its numbers.
    while is_below(looked, goal) or is_below(goal, looked):
        if is_below(looked, goal):
            walk.go(RIGHT)
        else:
            walk.go(LEFT)
        looked = walk.looked_at()
    return walk
