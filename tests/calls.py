"""Writes calls as the interface asks for them, and takes the answers apart again."""

from pegsandbricks.batten import answers

HUGE = 4294967295


def begins(long, left, right, weight, bear):
    return [0, long, left, right, weight, bear]


def peg(place):
    return [1, place]


def piece(weight):
    return [2, weight]


def brick(weight, many):
    return [3, weight, many]


def hang(*pegs):
    return [4, len(pegs), *pegs]


def best():
    return [5]


def stack():
    return [6]


def written(calls):
    """The calls one behind another, as one list."""
    return [number for call in calls for number in call]


def taken_apart(told):
    """One list for each call out of the counted answers."""
    parts = []
    start = 0
    while start < len(told):
        end = start + 1 + told[start]
        parts.append(told[start + 1:end])
        start = end
    return parts


def ask_rows(*calls):
    """What each of the calls answers, a list for each."""
    parts = taken_apart(answers(written(calls)))
    if len(parts) != len(calls):
        raise AssertionError(f"{len(calls)} calls, {len(parts)} answers")
    return parts


def ask_last(*calls):
    """What the last of the calls answers."""
    return ask_rows(*calls)[-1]


def ask(*calls):
    """What each of the calls answers, where every one answers a single number."""
    numbers = []
    for part in ask_rows(*calls):
        if len(part) != 1:
            raise AssertionError(f"one number was due, not {part}")
        numbers.append(part[0])
    return numbers
