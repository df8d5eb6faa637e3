"""Promise 1: begins."""

import unittest

from pegsandbricks.rig import Rig
from tests.calls import HUGE, ask, begins, brick, peg, piece

WHOLE = (1000, 200, 800, 10000, 100000)

WRONG_BEGINS = (
    (0, 0, 0, 0, 0),
    (0, 0, 1, 0, 0),
    (1001, 0, 2, 0, 0),
    (HUGE, 0, 2, 0, 0),
    (10, 0, 11, 0, 0),
    (10, 10, 11, 0, 0),
    (10, 11, 12, 0, 0),
    (10, 0, HUGE, 0, 0),
    (10, HUGE, 5, 0, 0),
    (10, HUGE, HUGE, 0, 0),
    (10, 5, 5, 0, 0),
    (10, 0, 0, 0, 0),
    (10, 10, 10, 0, 0),
    (10, 6, 5, 0, 0),
    (10, 10, 0, 0, 0),
    (10, 11, 10, 0, 0),
    (10, 0, 10, 10001, 0),
    (10, 0, 10, HUGE, 0),
    (10, 0, 10, 0, 100001),
    (10, 0, 10, 0, HUGE),
    (HUGE, HUGE, HUGE, HUGE, HUGE),
)

RIGHT_BEGINS = (
    WHOLE,
    (1, 0, 1, 0, 0),
    (2, 0, 1, 0, 0),
    (2, 1, 2, 0, 0),
    (1000, 0, 1000, 0, 0),
    (1000, 0, 1, 10000, 0),
    (1000, 999, 1000, 0, 100000),
    (999, 0, 999, 9999, 99999),
    (10, 5, 6, 1, 1),
)


def state(rig):
    return (rig.long, rig.left, rig.right, rig.weight, rig.bear, list(rig.pegs), list(rig.pieces), list(rig.bricks))


def loaded_rig():
    rig = Rig()
    rig.begins(20, 3, 17, 40, 500)
    rig.peg(20)
    rig.peg(0)
    rig.piece(7)
    rig.brick(9, 8)
    return rig


class BeginsAnswers(unittest.TestCase):
    def test_right_numbers_answer_0(self):
        for numbers in RIGHT_BEGINS:
            with self.subTest(numbers=numbers):
                self.assertEqual(ask(begins(*numbers)), [0])

    def test_wrong_numbers_are_refused(self):
        for numbers in WRONG_BEGINS:
            with self.subTest(numbers=numbers):
                self.assertEqual(ask(begins(*numbers)), [-1])

    def test_every_length_up_to_1000_and_none_else(self):
        for long in range(0, 1003):
            with self.subTest(long=long):
                self.assertEqual(ask(begins(long, 0, 1, 0, 0)), [0 if 1 <= long <= 1000 else -1])

    def test_lines_on_a_short_batten(self):
        for left in range(0, 6):
            for right in range(0, 6):
                with self.subTest(left=left, right=right):
                    due = 0 if left < right <= 4 else -1
                    self.assertEqual(ask(begins(4, left, right, 0, 0)), [due])

    def test_each_number_alone_at_its_edges(self):
        edges = {
            0: ((799, -1), (800, 0), (1000, 0), (1001, -1), (HUGE, -1)),
            1: ((0, 0), (799, 0), (800, -1), (801, -1), (HUGE, -1)),
            2: ((0, -1), (199, -1), (200, -1), (201, 0), (1000, 0), (1001, -1), (HUGE, -1)),
            3: ((0, 0), (9999, 0), (10000, 0), (10001, -1), (HUGE, -1)),
            4: ((0, 0), (99999, 0), (100000, 0), (100001, -1), (HUGE, -1)),
        }
        for which, rows in edges.items():
            for number, due in rows:
                numbers = list(WHOLE)
                numbers[which] = number
                with self.subTest(numbers=numbers):
                    self.assertEqual(ask(begins(*numbers)), [due])


class BeginsKeeps(unittest.TestCase):
    def test_refused_begins_leaves_all_that_calls_show(self):
        before = (begins(20, 3, 17, 40, 500), peg(20), peg(0), piece(7), brick(9, 8))
        after = (peg(20), peg(0), peg(21), peg(19), piece(1), brick(1, 0))
        for numbers in WRONG_BEGINS:
            with self.subTest(numbers=numbers):
                told = ask(*before, begins(*numbers), *after)
                self.assertEqual(told, [0, 0, 1, 0, 0, -1, -1, -1, -1, 2, 1, 1])

    def test_refused_begins_leaves_full_what_is_full(self):
        before = [begins(9, 0, 9, 0, 0)]
        before += [peg(place) for place in range(5)]
        before += [piece(1)] * 5 + [brick(1, 1)] * 4
        told = ask(*before, begins(9, 9, 0, 0, 0), peg(9), piece(1), brick(1, 1))
        self.assertEqual(told[len(before):], [-1, -5, -5, -5])

    def test_refused_begins_leaves_all_that_is_kept(self):
        for numbers in WRONG_BEGINS:
            with self.subTest(numbers=numbers):
                rig = loaded_rig()
                self.assertEqual(rig.begins(*numbers), [-1])
                self.assertEqual(state(rig), (20, 3, 17, 40, 500, [20, 0], [7], [(9, 8)]))

    def test_refused_first_begins_leaves_the_batten_of_the_beginning(self):
        for numbers in WRONG_BEGINS:
            with self.subTest(numbers=numbers):
                told = ask(begins(*numbers), peg(3), peg(2), peg(1), peg(0), piece(1), brick(1, 0))
                self.assertEqual(told, [-1, -1, 0, 1, 2, 0, 0])

    def test_begins_takes_pegs_pieces_and_bricks_away(self):
        for numbers in RIGHT_BEGINS:
            with self.subTest(numbers=numbers):
                told = ask(peg(0), peg(1), piece(5), piece(6), brick(5, 5), brick(6, 6),
                           begins(*numbers), peg(1), peg(0), piece(5), brick(5, 5))
                self.assertEqual(told, [0, 1, 0, 1, 0, 1, 0, 0, 1, 0, 0])

    def test_begins_empties_what_was_full(self):
        filled = [peg(place) for place in range(5)] + [piece(1)] * 5 + [brick(1, 1)] * 4
        due = [0, 1, 2, 3, 4, 0, 1, 2, 3, 4, 0, 1, 2, 3]
        first = begins(4, 0, 4, 0, 0)
        self.assertEqual(ask(first, *filled, first, *filled), [0] + due + [0] + due)

    def test_begins_sets_how_long_the_batten_is(self):
        told = ask(begins(10, 0, 10, 0, 0), peg(10), peg(11), begins(5, 0, 5, 0, 0), peg(10), peg(6), peg(5))
        self.assertEqual(told, [0, 0, -1, 0, -1, -1, 0])
        told = ask(begins(5, 0, 5, 0, 0), peg(6), begins(10, 0, 5, 0, 0), peg(6), peg(10), peg(11))
        self.assertEqual(told, [0, -1, 0, 0, 1, -1])

    def test_begins_keeps_each_number_under_its_own_name(self):
        rig = loaded_rig()
        self.assertEqual(rig.begins(30, 4, 26, 50, 600), [0])
        self.assertEqual(state(rig), (30, 4, 26, 50, 600, [], [], []))

    def test_batten_at_its_beginning(self):
        self.assertEqual(state(Rig()), (2, 0, 2, 0, 0, [], [], []))


if __name__ == "__main__":
    unittest.main()
