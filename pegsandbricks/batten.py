"""Answers a list of calls on one batten."""

from pegsandbricks.rig import Rig

BEGINS = 0
PEG = 1
PIECE = 2
BRICK = 3
HANG = 4
BEST = 5

# How many whole numbers stand behind the call's own number: begins, peg, piece, brick, hang, best, stack.
# That of hang is how many numbers its row has; the row comes behind it.
COUNTS = (5, 1, 1, 2, 1, 0, 0)


def end_of_call(calls, start):
    end = start + 1 + COUNTS[calls[start]]
    if calls[start] == HANG:
        return end + calls[start + 1]
    return end


def answer_call(rig, call, numbers):
    if call == BEGINS:
        return rig.begins(numbers[0], numbers[1], numbers[2], numbers[3], numbers[4])
    if call == PEG:
        return rig.peg(numbers[0])
    if call == PIECE:
        return rig.piece(numbers[0])
    if call == BRICK:
        return rig.brick(numbers[0], numbers[1])
    if call == HANG:
        return rig.hang(numbers[1:])
    if call == BEST:
        return rig.best()
    # COUNTS has let no other call through, so this one is stack.
    return rig.stack()


def answers(calls):
    """For each call, in order, how many numbers are answered, and behind that these."""
    rig = Rig()
    told = []
    start = 0
    while start < len(calls):
        end = end_of_call(calls, start)
        answered = answer_call(rig, calls[start], calls[start + 1:end])
        told.append(len(answered))
        told.extend(answered)
        start = end
    return told
