"""Promise 2: peg, piece, brick."""

import unittest

from pegsandbricks.rig import Rig
from tests.calls import HUGE, ask, begins, brick, peg, piece

TEN_LONG = begins(10, 2, 8, 100, 1000)


class Pegs(unittest.TestCase):
    def test_places_that_are_there_and_not(self):
        for place, due in ((0, 0), (1, 0), (5, 0), (9, 0), (10, 0), (11, -1), (1000, -1), (HUGE, -1)):
            with self.subTest(place=place):
                self.assertEqual(ask(TEN_LONG, peg(place)), [0, due])

    def test_places_on_the_shortest_and_longest_batten(self):
        self.assertEqual(ask(begins(1, 0, 1, 0, 0), peg(2), peg(1), peg(0)), [0, -1, 0, 1])
        self.assertEqual(ask(begins(1000, 0, 1, 0, 0), peg(1001), peg(1000), peg(0)), [0, -1, 0, 1])

    def test_before_any_begins(self):
        self.assertEqual(ask(peg(0), peg(1), peg(2), peg(3)), [0, 1, 2, -1])
        self.assertEqual(ask(peg(3), peg(2), peg(1), peg(0)), [-1, 0, 1, 2])
        self.assertEqual(ask(peg(HUGE), peg(0)), [-1, 0])

    def test_place_that_has_a_peg(self):
        for place in (0, 4, 10):
            with self.subTest(place=place):
                told = ask(TEN_LONG, peg(place), peg(place), peg(7), peg(place), peg(7))
                self.assertEqual(told, [0, 0, -1, 1, -1, -1])

    def test_sixth_peg(self):
        five = [peg(place) for place in (10, 0, 5, 3, 7)]
        for place, due in ((1, -5), (9, -5), (10, -1), (0, -1), (5, -1), (3, -1), (7, -1), (11, -1), (HUGE, -1)):
            with self.subTest(place=place):
                self.assertEqual(ask(TEN_LONG, *five, peg(place)), [0, 0, 1, 2, 3, 4, due])

    def test_full_pegs_stay_full(self):
        five = [peg(place) for place in range(5)]
        told = ask(TEN_LONG, *five, peg(9), peg(9), peg(11), peg(4), peg(9))
        self.assertEqual(told, [0, 0, 1, 2, 3, 4, -5, -5, -1, -1, -5])

    def test_refused_peg_gives_no_number_away(self):
        told = ask(TEN_LONG, peg(11), peg(3), peg(3), peg(11), peg(4), peg(HUGE), peg(5))
        self.assertEqual(told, [0, -1, 0, -1, -1, 1, -1, 2])

    def test_line_places_may_have_pegs(self):
        self.assertEqual(ask(TEN_LONG, peg(2), peg(8)), [0, 0, 1])


class Pieces(unittest.TestCase):
    def test_weights(self):
        for weight, due in ((0, -1), (1, 0), (2, 0), (9999, 0), (10000, 0), (10001, -1), (HUGE, -1)):
            with self.subTest(weight=weight):
                self.assertEqual(ask(TEN_LONG, piece(weight)), [0, due])
                self.assertEqual(ask(piece(weight)), [due])

    def test_pieces_may_weigh_the_same(self):
        self.assertEqual(ask(TEN_LONG, piece(3), piece(3), piece(3)), [0, 0, 1, 2])

    def test_more_pieces_than_pegs(self):
        self.assertEqual(ask(*[piece(1)] * 5), [0, 1, 2, 3, 4])

    def test_sixth_piece(self):
        five = [piece(weight) for weight in (1, 10000, 5, 5, 70)]
        for weight, due in ((1, -5), (5, -5), (10000, -5), (0, -1), (10001, -1), (HUGE, -1)):
            with self.subTest(weight=weight):
                self.assertEqual(ask(*five, piece(weight)), [0, 1, 2, 3, 4, due])

    def test_refused_piece_gives_no_number_away(self):
        told = ask(piece(0), piece(4), piece(10001), piece(4), piece(HUGE), piece(4))
        self.assertEqual(told, [-1, 0, -1, 1, -1, 2])


class Bricks(unittest.TestCase):
    def test_weights(self):
        for weight, due in ((0, -1), (1, 0), (2, 0), (9999, 0), (10000, 0), (10001, -1), (HUGE, -1)):
            for many in (0, 3, 8):
                with self.subTest(weight=weight, many=many):
                    self.assertEqual(ask(TEN_LONG, brick(weight, many)), [0, due])
                    self.assertEqual(ask(brick(weight, many)), [due])

    def test_how_many(self):
        for many, due in ((0, 0), (1, 0), (7, 0), (8, 0), (9, -1), (10000, -1), (HUGE, -1)):
            for weight in (1, 50, 10000):
                with self.subTest(weight=weight, many=many):
                    self.assertEqual(ask(brick(weight, many)), [due])

    def test_both_numbers_wrong(self):
        self.assertEqual(ask(brick(0, 9), brick(10001, 9), brick(HUGE, HUGE)), [-1, -1, -1])

    def test_kinds_may_be_alike(self):
        self.assertEqual(ask(brick(3, 2), brick(3, 2), brick(3, 0)), [0, 1, 2])

    def test_fifth_kind(self):
        four = [brick(1, 0), brick(10000, 8), brick(5, 5), brick(5, 5)]
        rows = ((1, 0, -5), (10000, 8, -5), (5, 5, -5),
                (0, 5, -1), (10001, 5, -1), (5, 9, -1), (HUGE, 0, -1), (1, HUGE, -1), (0, 9, -1))
        for weight, many, due in rows:
            with self.subTest(weight=weight, many=many):
                self.assertEqual(ask(*four, brick(weight, many)), [0, 1, 2, 3, due])

    def test_refused_brick_gives_no_number_away(self):
        told = ask(brick(0, 1), brick(4, 1), brick(4, 9), brick(4, 1), brick(10001, 1), brick(4, 1))
        self.assertEqual(told, [-1, 0, -1, 1, -1, 2])


class Together(unittest.TestCase):
    def test_each_has_numbers_of_its_own(self):
        told = ask(TEN_LONG, peg(1), piece(1), brick(1, 1), piece(2), peg(2), brick(2, 2), brick(3, 3), peg(3))
        self.assertEqual(told, [0, 0, 0, 0, 1, 1, 1, 2, 2])

    def test_one_that_is_full_leaves_room_for_the_others(self):
        five = [peg(place) for place in range(5)]
        self.assertEqual(ask(TEN_LONG, *five, peg(9), piece(1), brick(1, 1))[6:], [-5, 0, 0])
        self.assertEqual(ask(*[piece(1)] * 6, peg(0), brick(1, 1))[5:], [-5, 0, 0])
        self.assertEqual(ask(*[brick(1, 1)] * 5, peg(0), piece(1))[4:], [-5, 0, 0])

    def test_what_is_kept_and_what_refused_calls_leave(self):
        rig = Rig()
        rig.begins(10, 2, 8, 100, 1000)
        for place in (10, 11, 10, 0, 3, 4, 5, 6):
            rig.peg(place)
        for weight in (0, 9, 10001, 8, 8, 1, 2, 3):
            rig.piece(weight)
        for weight, many in ((0, 1), (5, 9), (5, 8), (6, 0), (5, 8), (1, 1), (2, 2)):
            rig.brick(weight, many)
        self.assertEqual(rig.pegs, [10, 0, 3, 4, 5])
        self.assertEqual(rig.pieces, [9, 8, 8, 1, 2])
        self.assertEqual(rig.bricks, [(5, 8), (6, 0), (5, 8), (1, 1)])
        self.assertEqual((rig.long, rig.left, rig.right, rig.weight, rig.bear), (10, 2, 8, 100, 1000))


if __name__ == "__main__":
    unittest.main()
