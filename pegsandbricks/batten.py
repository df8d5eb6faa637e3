"""Answers a list of calls on one batten."""

from pegsandbricks.rig import Rig

BEGINS = 0
PEG = 1
PIECE = 2

# How many whole numbers stand behind the call's own number: begins, peg, piece, brick.
COUNTS = (5, 1, 1, 2)


def answer_call(rig, call, numbers):
    if call == BEGINS:
        return rig.begins(numbers[0], numbers[1], numbers[2], numbers[3], numbers[4])
    if call == PEG:
        return rig.peg(numbers[0])
    if call == PIECE:
        return rig.piece(numbers[0])
    # COUNTS has let no other call through, so this one is brick.
    return rig.brick(numbers[0], numbers[1])


def answers(calls):
    """For each call, in order, how many numbers are answered, and behind that these."""
    rig = Rig()
    told = []
    start = 0
    while start < len(calls):
        call = calls[start]
        end = start + 1 + COUNTS[call]
        answered = answer_call(rig, call, calls[start + 1:end])
        told.append(len(answered))
        told.extend(answered)
        start = end
    return told
