"""The interface: how calls are handed in and how they are answered."""

import contextlib
import io
import unittest

from pegsandbricks.batten import answers
from tests.calls import HUGE, begins, best, brick, hang, peg, piece, stack, taken_apart, written

SOME_CALLS = [0, 10, 0, 10, 5, 100, 1, 10, 1, 10, 2, 7, 3, 4, 8, 3, 4, 9, 0, 0, 0, 0, 0, 0, 1, 3,
              4, 1, 0, 4, 2, 0, 1, 5, 6]
SOME_ANSWERS = [1, 0, 1, 0, 1, -1, 1, 0, 1, 0, 1, -1, 1, -1, 1, 1,
                5, 1, 5, 2, 19, 2, 1, -1, 4, 1, 37, 5, 1, 4, 0, 3, 1, 3]


class Untouchable(list):
    """A list that no one may change, not for a while either."""

    def refuse(self, *rest, **named):
        raise AssertionError("the list that was handed in was to be changed")

    append = extend = insert = remove = pop = clear = sort = reverse = refuse
    __setitem__ = __delitem__ = __iadd__ = __imul__ = refuse


class Form(unittest.TestCase):
    def test_single_calls(self):
        rows = (
            (begins(1, 0, 1, 0, 0), [1, 0]), (begins(0, 0, 1, 0, 0), [1, -1]),
            (peg(2), [1, 0]), (peg(3), [1, -1]),
            (piece(1), [1, 0]), (piece(0), [1, -1]),
            (brick(1, 0), [1, 0]), (brick(1, 9), [1, -1]),
            (hang(), [5, 1, 0, 1, 0, 1]), (hang(0), [1, -1]), (best(), [3, 1, 0, 1]), (stack(), [3, 0, 0, 1]),
        )
        for calls, due in rows:
            with self.subTest(calls=calls):
                self.assertEqual(answers(calls), due)

    def test_several_calls_in_one_list(self):
        self.assertEqual(answers(list(SOME_CALLS)), SOME_ANSWERS)

    def test_answers_are_a_list_of_whole_numbers(self):
        told = answers(list(SOME_CALLS))
        self.assertIs(type(told), list)
        self.assertEqual([type(number) for number in told], [int] * len(told))

    def test_80_calls(self):
        calls = written([begins(1000, 0, 1000, 10000, 100000)] * 80)
        self.assertEqual(answers(calls), [1, 0] * 80)

    def test_80_mixed_calls(self):
        round_of_ten = [begins(8, 1, 7, 3, 9), peg(8), piece(4), brick(4, 4), peg(8),
                        piece(HUGE), brick(HUGE, HUGE), peg(0), piece(1), brick(1, 8)]
        due = [0, 0, 0, 0, -1, -1, -1, 1, 1, 1]
        told = answers(written(round_of_ten * 8))
        self.assertEqual(taken_apart(told), [[number] for number in due * 8])
        self.assertEqual(len(told), 160)

    def test_numbers_that_look_like_calls(self):
        self.assertEqual(answers([1, 1, 1, 2, 2, 2, 2, 3, 3, 3, 3, 1, 0]), [1, 0, 1, 1, 1, 0, 1, 1, 1, 0, 1, 2])
        self.assertEqual(answers([0, 3, 2, 3, 1, 0, 1, 3]), [1, 0, 1, 0])


class Manners(unittest.TestCase):
    def test_list_handed_in_is_the_same_afterwards(self):
        calls = list(SOME_CALLS)
        told = answers(calls)
        self.assertEqual(calls, SOME_CALLS)
        self.assertIsNot(told, calls)

    def test_list_handed_in_is_not_changed_for_a_while_either(self):
        calls = Untouchable(SOME_CALLS)
        self.assertEqual(answers(calls), SOME_ANSWERS)
        self.assertEqual(list(calls), SOME_CALLS)

    def test_same_list_twice_is_answered_alike(self):
        calls = list(SOME_CALLS)
        self.assertEqual(answers(calls), SOME_ANSWERS)
        self.assertEqual(answers(calls), SOME_ANSWERS)

    def test_nothing_is_kept_from_one_time_to_the_next(self):
        filled = written([begins(9, 0, 9, 0, 0)] + [peg(n) for n in range(5)] + [piece(1)] * 5 + [brick(1, 1)] * 4)
        answers(filled)
        told = answers(written([peg(3), peg(0), peg(1), piece(1), brick(1, 1)]))
        self.assertEqual(told, [1, -1, 1, 0, 1, 1, 1, 0, 1, 0])

    def test_changing_what_was_answered_changes_no_later_answer(self):
        told = answers(list(SOME_CALLS))
        told.clear()
        self.assertEqual(answers(list(SOME_CALLS)), SOME_ANSWERS)

    def test_nothing_is_printed(self):
        out = io.StringIO()
        err = io.StringIO()
        with contextlib.redirect_stdout(out), contextlib.redirect_stderr(err):
            answers(list(SOME_CALLS))
        self.assertEqual(out.getvalue() + err.getvalue(), "")


if __name__ == "__main__":
    unittest.main()
