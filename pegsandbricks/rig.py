"""One batten with its lines, pegs, pieces and bricks, and the calls on it."""

from pegsandbricks.hangings import best_hangings, fraction, heavier_load, holds, is_hanging, loads, scale
from pegsandbricks.stacks import best_stack

WRONG = -1
FULL = -5
NONE_HOLDS = -6

MOST_LONG = 1000
MOST_WEIGHT = 10000
MOST_BEAR = 100000
MOST_BRICKS = 8

MOST_PEGS = 5
MOST_PIECES = 5
MOST_KINDS = 4


def lines_fit(long, left, right):
    # Numbers are never below 0, so these bounds keep both lines between 0 and how long the batten is.
    return left < right and right <= long


def can_begin(long, left, right, weight, bear):
    if long < 1 or long > MOST_LONG:
        return False
    return lines_fit(long, left, right) and weight <= MOST_WEIGHT and bear <= MOST_BEAR


def weighs_something(weight):
    return 1 <= weight and weight <= MOST_WEIGHT


def number_given(things, thing, most):
    """Keeps the thing and answers its number, unless there are as many as may be."""
    if len(things) >= most:
        return [FULL]
    things.append(thing)
    return [len(things) - 1]


class Rig:
    """Each call answers the list of its numbers; a refused one changes nothing."""

    def __init__(self):
        self.set_up(2, 0, 2, 0, 0)

    def set_up(self, long, left, right, weight, bear):
        self.long = long
        self.left = left
        self.right = right
        self.weight = weight
        self.bear = bear
        self.pegs = []
        self.pieces = []
        self.bricks = []

    def begins(self, long, left, right, weight, bear):
        if not can_begin(long, left, right, weight, bear):
            return [WRONG]
        self.set_up(long, left, right, weight, bear)
        return [0]

    # In peg, piece and brick the wrong number is looked for first: of several refusals it is the one told first.

    def peg(self, place):
        if place > self.long or place in self.pegs:
            return [WRONG]
        return number_given(self.pegs, place, MOST_PEGS)

    def piece(self, weight):
        if not weighs_something(weight):
            return [WRONG]
        return number_given(self.pieces, weight, MOST_PIECES)

    def brick(self, weight, many):
        if not weighs_something(weight) or many > MOST_BRICKS:
            return [WRONG]
        return number_given(self.bricks, (weight, many), MOST_KINDS)

    def hang(self, pegs):
        if not is_hanging(self, pegs):
            return [WRONG]
        both = loads(self, pegs)
        held = 1 if holds(self, pegs) else 0
        return [held] + fraction(both[0], scale(self)) + fraction(both[1], scale(self))

    def best(self):
        found = best_hangings(self)
        if found == []:
            return [NONE_HOLDS]
        earliest = found[0]
        return [len(found)] + fraction(heavier_load(self, earliest), scale(self)) + earliest

    def stack(self):
        return best_stack(self.bricks, self.weight + sum(self.pieces))
