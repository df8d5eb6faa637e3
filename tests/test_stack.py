"""Promise 3: stack."""

import unittest

from tests.calls import ask_last, ask_rows, begins, brick, peg, piece, stack


def stacked(weight, *kinds):
    """What stack answers for a batten of this weight, without pieces, and these kinds of bricks."""
    return ask_last(begins(10, 0, 10, weight, 0), *[brick(heavy, many) for heavy, many in kinds], stack())


class Stack(unittest.TestCase):
    def test_no_bricks_at_all(self):
        self.assertEqual(ask_last(stack()), [0, 0, 1])
        self.assertEqual(stacked(7), [7, 0, 1])
        self.assertEqual(stacked(10000), [10000, 0, 1])

    def test_one_kind(self):
        rows = (
            (0, [0, 0, 1, 0]), (3, [0, 1, 1, 1]), (4, [1, 1, 1, 1]), (5, [1, 2, 1, 2]), (12, [0, 4, 1, 4]),
            (13, [1, 4, 1, 4]), (100, [88, 4, 1, 4]),
        )
        for weight, due in rows:
            with self.subTest(weight=weight):
                self.assertEqual(stacked(weight, (3, 4)), due)

    def test_several_kinds(self):
        self.assertEqual(stacked(17, (5, 8), (3, 8)), [0, 5, 1, 1, 4])
        self.assertEqual(stacked(17, (5, 8), (3, 3)), [1, 4, 2, 2, 2])
        self.assertEqual(stacked(30, (7, 2), (11, 1), (5, 1)), [0, 4, 1, 2, 1, 1])

    def test_fewer_bricks_are_better_where_as_far_off(self):
        self.assertEqual(stacked(10, (1, 8), (2, 8), (5, 8), (10, 8)), [0, 1, 1, 0, 0, 0, 1])
        self.assertEqual(stacked(10, (10, 8), (5, 8), (2, 8), (1, 8)), [0, 1, 1, 1, 0, 0, 0])
        self.assertEqual(stacked(12, (2, 8), (3, 8), (4, 2)), [0, 4, 3, 0, 4, 0])

    def test_less_far_off_is_better_than_fewer_bricks(self):
        self.assertEqual(stacked(8, (1, 8), (9, 1)), [0, 8, 1, 8, 0])
        self.assertEqual(stacked(8, (1, 7), (9, 1)), [1, 1, 1, 0, 1])

    def test_as_near_from_below_as_from_above(self):
        self.assertEqual(stacked(5, (4, 1), (6, 1)), [1, 1, 2, 0, 1])
        self.assertEqual(stacked(5, (6, 1), (4, 1)), [1, 1, 2, 0, 1])
        self.assertEqual(stacked(5, (2, 2), (6, 1)), [1, 1, 1, 0, 1])
        self.assertEqual(stacked(5, (4, 1), (3, 2)), [1, 1, 1, 1, 0])

    def test_no_brick_is_as_near_as_one(self):
        self.assertEqual(stacked(1, (2, 8)), [1, 0, 1, 0])
        self.assertEqual(stacked(50, (100, 8), (100, 8)), [50, 0, 1, 0, 0])
        self.assertEqual(stacked(51, (100, 8), (100, 8)), [49, 1, 2, 0, 1])

    def test_nothing_weighs_anything(self):
        self.assertEqual(stacked(0, (1, 8), (2, 8), (3, 8), (4, 8)), [0, 0, 1, 0, 0, 0, 0])

    def test_all_bricks_together_are_too_light(self):
        self.assertEqual(stacked(10000, (1, 8), (2, 7), (3, 0), (4, 1)), [9974, 16, 1, 8, 7, 0, 1])


class KindsOfNone(unittest.TestCase):
    def test_there_are_0_of_each(self):
        self.assertEqual(stacked(7, (7, 0)), [7, 0, 1, 0])
        self.assertEqual(stacked(7, (7, 0), (1, 0), (7, 0), (3, 0)), [7, 0, 1, 0, 0, 0, 0])

    def test_some_of_them_are_0(self):
        self.assertEqual(stacked(7, (7, 0), (4, 1), (7, 0), (3, 1)), [0, 2, 1, 0, 1, 0, 1])
        self.assertEqual(stacked(7, (7, 0), (7, 1)), [0, 1, 1, 0, 1])
        self.assertEqual(stacked(7, (7, 1), (7, 0)), [0, 1, 1, 1, 0])


class ManyWays(unittest.TestCase):
    def test_kinds_of_the_same_weight(self):
        self.assertEqual(stacked(6, (2, 8), (2, 8)), [0, 3, 4, 0, 3])
        self.assertEqual(stacked(6, (2, 8), (2, 8), (2, 8)), [0, 3, 10, 0, 0, 3])
        self.assertEqual(stacked(6, (2, 1), (2, 1), (2, 2)), [0, 3, 3, 0, 1, 2])

    def test_earliest_has_fewer_of_the_first_kind_that_differs(self):
        self.assertEqual(stacked(10, (4, 8), (5, 8), (6, 8)), [0, 2, 2, 0, 2, 0])
        self.assertEqual(stacked(10, (5, 8), (6, 8), (4, 8)), [0, 2, 2, 0, 1, 1])
        self.assertEqual(stacked(20, (10, 1), (10, 1), (10, 1), (3, 8)), [0, 2, 3, 0, 1, 1, 0])

    def test_four_kinds_of_the_same_weight_with_8_of_each(self):
        self.assertEqual(stacked(16, (1, 8), (1, 8), (1, 8), (1, 8)), [0, 16, 489, 0, 0, 8, 8])
        self.assertEqual(stacked(8, (1, 8), (1, 8), (1, 8), (1, 8)), [0, 8, 165, 0, 0, 0, 8])
        self.assertEqual(stacked(32, (1, 8), (1, 8), (1, 8), (1, 8)), [0, 32, 1, 8, 8, 8, 8])
        self.assertEqual(stacked(33, (1, 8), (1, 8), (1, 8), (1, 8)), [1, 32, 1, 8, 8, 8, 8])
        self.assertEqual(stacked(17, (2, 8), (2, 8), (2, 8), (2, 8)), [1, 8, 165, 0, 0, 0, 8])


class FullSet(unittest.TestCase):
    def test_only_one_way(self):
        # Counted by nines every weight has digits of its own.
        self.assertEqual(stacked(5000, (1, 8), (9, 8), (81, 8), (729, 8)), [0, 24, 1, 5, 6, 7, 6])
        self.assertEqual(stacked(6560, (1, 8), (9, 8), (81, 8), (729, 8)), [0, 32, 1, 8, 8, 8, 8])
        self.assertEqual(stacked(6561, (729, 8), (81, 8), (9, 8), (1, 8)), [1, 32, 1, 8, 8, 8, 8])

    def test_greatest_weights(self):
        five = [piece(10000)] * 5
        four = [brick(10000, 8)] * 4
        told = ask_last(begins(1000, 0, 1000, 10000, 0), *five, *four, stack())
        self.assertEqual(told, [0, 6, 84, 0, 0, 0, 6])
        four = [brick(1, 8)] * 4
        self.assertEqual(ask_last(begins(1000, 0, 1000, 10000, 0), *five, *four, stack()), [59968, 32, 1, 8, 8, 8, 8])


class WhatIsWeighed(unittest.TestCase):
    def test_batten_and_all_pieces(self):
        told = ask_rows(begins(10, 0, 10, 5, 0), brick(1, 8), brick(10, 8),
                        stack(), piece(7), stack(), piece(20), stack())
        self.assertEqual([told[3], told[5], told[7]], [[0, 5, 1, 5, 0], [0, 3, 1, 2, 1], [0, 5, 1, 2, 3]])

    def test_pieces_of_the_batten_of_the_beginning(self):
        self.assertEqual(ask_last(piece(3), piece(4), brick(7, 1), stack()), [0, 1, 1, 1])

    def test_it_has_an_answer_where_no_hanging_holds(self):
        self.assertEqual(ask_last(begins(10, 0, 2, 9, 0), piece(3), piece(4), stack()), [16, 0, 1])

    def test_pegs_weigh_nothing(self):
        self.assertEqual(ask_last(begins(10, 0, 10, 4, 0), peg(3), peg(9), brick(2, 3), stack()), [0, 2, 1, 2])


if __name__ == "__main__":
    unittest.main()
