"""Hangings: what the two lines bear, whether a hanging holds, and which hangings are the best.

A hanging is a list with a peg for each piece. What a line bears is kept times the rig's scale, as a whole number,
so that hangings are told apart without fractions.
"""


def scale(rig):
    # Twice, since half the batten's length need not be a whole number.
    return 2 * (rig.right - rig.left)


def loads(rig, hanging):
    """What the left and the right line bear, both times the scale."""
    left = rig.weight * (2 * rig.right - rig.long)
    right = rig.weight * (rig.long - 2 * rig.left)
    for weight, peg in zip(rig.pieces, hanging):
        place = rig.pegs[peg]
        left += 2 * weight * (rig.right - place)
        right += 2 * weight * (place - rig.left)
    return (left, right)


def heavier_load(rig, hanging):
    return max(loads(rig, hanging))


def holds(rig, hanging):
    both = loads(rig, hanging)
    return min(both) >= 0 and max(both) <= rig.bear * scale(rig)


def is_hanging(rig, pegs):
    if len(pegs) != len(rig.pieces) or len(set(pegs)) != len(pegs):
        return False
    return all([peg < len(rig.pegs) for peg in pegs])


def all_hangings(rig):
    """Every hanging, the earlier ones first; none where there are more pieces than pegs."""
    hangings = [[]]
    for piece in range(len(rig.pieces)):
        longer = []
        for hanging in hangings:
            longer.extend([hanging + [peg] for peg in range(len(rig.pegs)) if peg not in hanging])
        hangings = longer
    return hangings


def best_hangings(rig):
    """Those that hold and are as good as the best, the earlier ones first; none where none holds."""
    held = [hanging for hanging in all_hangings(rig) if holds(rig, hanging)]
    least = min([heavier_load(rig, hanging) for hanging in held], default=0)
    return [hanging for hanging in held if heavier_load(rig, hanging) == least]


def greatest_divisor(first, second):
    while second > 0:
        rest = first % second
        first = second
        second = rest
    return first


def fraction(upper, lower):
    """The two numbers of upper / lower in lowest terms; lower is above 0."""
    divisor = greatest_divisor(abs(upper), lower)
    return [upper // divisor, lower // divisor]
