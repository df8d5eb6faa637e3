"""Bricks taken, told by how many there are of each kind, and which of them are the best.

A kind of bricks is a tuple: how heavy one is, and how many there are.
"""


def all_stacks(kinds):
    """How many of each kind may be taken, in every way, the earlier ones first."""
    stacks = [[]]
    for kind in kinds:
        longer = []
        for stack in stacks:
            longer.extend([stack + [many] for many in range(kind[1] + 1)])
        stacks = longer
    return stacks


def rank(kinds, goal, stack):
    """How far off the bricks are and how many: of two such tuples the lesser one is of the better bricks."""
    weight = sum([kind[0] * many for kind, many in zip(kinds, stack)])
    return (abs(weight - goal), sum(stack))


def best_stack(kinds, goal):
    """How far off the best bricks are, how many they are, in how many ways, then the earliest of them."""
    stacks = all_stacks(kinds)
    ranks = [rank(kinds, goal, stack) for stack in stacks]
    least = min(ranks)
    return [least[0], least[1], ranks.count(least)] + stacks[ranks.index(least)]
