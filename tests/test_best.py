"""Promise 3: best."""

import unittest
from fractions import Fraction
from itertools import permutations

from tests.calls import ask_last, ask_rows, begins, best, brick, hang, peg, piece


def best_of(batten, places, weights):
    return ask_last(batten, *[peg(place) for place in places], *[piece(weight) for weight in weights], best())


class Best(unittest.TestCase):
    def test_piece_hangs_nearest_to_the_middle(self):
        self.assertEqual(best_of(begins(10, 0, 10, 0, 100), (9, 5, 2), (10,)), [1, 5, 1, 1])
        self.assertEqual(best_of(begins(10, 0, 10, 0, 100), (9, 8, 3), (10,)), [1, 7, 1, 2])
        self.assertEqual(best_of(begins(10, 0, 10, 0, 100), (0, 8, 1), (10,)), [1, 8, 1, 1])

    def test_own_weight_is_borne_too(self):
        self.assertEqual(best_of(begins(10, 0, 8, 100, 100), (0, 4, 8), (20,)), [1, 125, 2, 0])
        self.assertEqual(best_of(begins(10, 2, 10, 100, 100), (2, 4, 10), (20,)), [1, 125, 2, 2])

    def test_half_length_that_is_not_whole(self):
        self.assertEqual(best_of(begins(3, 0, 2, 1, 10), (0, 1, 2), (1,)), [2, 5, 4, 0])
        self.assertEqual(best_of(begins(3, 1, 3, 1, 10), (1, 2, 3), (1,)), [2, 5, 4, 1])
        self.assertEqual(best_of(begins(3, 0, 2, 4, 10), (2, 1, 0), (1,)), [1, 3, 1, 2])

    def test_fraction_in_lowest_terms(self):
        self.assertEqual(best_of(begins(6, 0, 6, 0, 10), (2,), (1,)), [1, 2, 3, 0])
        self.assertEqual(best_of(begins(6, 0, 6, 0, 10), (4,), (1,)), [1, 2, 3, 0])
        self.assertEqual(best_of(begins(6, 0, 6, 0, 10), (4,), (3,)), [1, 2, 1, 0])

    def test_several_as_good_and_the_earliest_of_them(self):
        self.assertEqual(best_of(begins(10, 0, 10, 0, 100), (4, 6), (10,)), [2, 6, 1, 0])
        self.assertEqual(best_of(begins(10, 0, 10, 0, 100), (6, 4), (10,)), [2, 6, 1, 0])
        self.assertEqual(best_of(begins(10, 0, 10, 0, 100), (9, 6, 4), (10,)), [2, 6, 1, 1])
        self.assertEqual(best_of(begins(10, 0, 10, 0, 100), (2, 8), (5, 5)), [2, 5, 1, 0, 1])

    def test_first_piece_that_differs_tells_the_earlier(self):
        # 10 and 10 balance on (1, 2), (2, 1), (0, 3) and (3, 0).
        self.assertEqual(best_of(begins(10, 0, 10, 0, 100), (1, 3, 7, 9), (10, 10)), [4, 10, 1, 0, 3])
        # The heavy one hangs in the middle, so the first piece has peg 1 in all of them.
        self.assertEqual(best_of(begins(10, 0, 10, 0, 100), (8, 5, 2), (90, 10, 10)), [2, 55, 1, 1, 0, 2])

    def test_heavy_pieces_hang_from_high_pegs_where_that_is_best(self):
        self.assertEqual(best_of(begins(10, 0, 10, 0, 100), (0, 5), (1, 50)), [1, 26, 1, 0, 1])
        self.assertEqual(best_of(begins(10, 0, 10, 0, 100), (0, 5), (50, 1)), [1, 26, 1, 1, 0])

    def test_best_is_as_good_as_any_that_hang_says_holds(self):
        before = (begins(20, 3, 16, 7, 30), peg(1), peg(6), peg(11), peg(19), piece(20), piece(9), piece(13))
        heavier = {}
        for pegs in permutations(range(4), 3):
            row = ask_last(*before, hang(*pegs))
            if row[0] == 1:
                heavier[pegs] = max(Fraction(row[1], row[2]), Fraction(row[3], row[4]))
        least = min(heavier.values())
        good = [pegs for pegs in heavier if heavier[pegs] == least]
        self.assertTrue(1 < len(heavier) < 24)
        due = [len(good), least.numerator, least.denominator, *good[0]]
        self.assertEqual(ask_last(*before, best()), due)


class WithoutPieces(unittest.TestCase):
    def test_there_is_one_hanging(self):
        self.assertEqual(ask_last(best()), [1, 0, 1])
        self.assertEqual(ask_last(peg(0), peg(1), peg(2), best()), [1, 0, 1])
        self.assertEqual(ask_last(begins(10, 0, 8, 100, 100), best()), [1, 125, 2])
        self.assertEqual(ask_last(begins(10, 0, 8, 100, 100), peg(3), best()), [1, 125, 2])

    def test_it_may_not_hold(self):
        self.assertEqual(ask_last(begins(10, 0, 8, 100, 62), best()), [-6])
        self.assertEqual(ask_last(begins(10, 0, 8, 100, 63), best()), [1, 125, 2])
        self.assertEqual(ask_last(begins(10, 0, 4, 100, 100000), best()), [-6])
        self.assertEqual(ask_last(begins(10, 6, 10, 100, 100000), best()), [-6])


class NoneHolds(unittest.TestCase):
    def test_lines_may_bear_too_little(self):
        self.assertEqual(best_of(begins(10, 0, 10, 0, 4), (5, 4, 6), (10,)), [-6])
        self.assertEqual(best_of(begins(10, 0, 10, 0, 5), (4, 6), (11,)), [-6])
        self.assertEqual(ask_last(peg(0), peg(1), peg(2), piece(1), best()), [-6])

    def test_line_is_slack_in_each(self):
        self.assertEqual(best_of(begins(10, 2, 8, 0, 100000), (0, 1, 9, 10), (5,)), [-6])
        self.assertEqual(best_of(begins(1000, 0, 999, 0, 100000), (1000,), (1,)), [-6])

    def test_more_pieces_than_pegs(self):
        self.assertEqual(ask_last(begins(10, 0, 10, 0, 100000), piece(1), best()), [-6])
        self.assertEqual(best_of(begins(10, 0, 10, 0, 100000), (5,), (1, 1)), [-6])
        self.assertEqual(best_of(begins(10, 0, 10, 0, 100000), (1, 3, 5, 7), (1, 1, 1, 1, 1)), [-6])

    def test_bricks_hold_nothing(self):
        self.assertEqual(ask_last(peg(1), piece(2), brick(2, 8), best()), [-6])


class OnlySomeHold(unittest.TestCase):
    def test_just_what_a_line_may_bear(self):
        self.assertEqual(best_of(begins(10, 0, 10, 0, 7), (1, 3, 9), (10,)), [1, 7, 1, 1])
        self.assertEqual(best_of(begins(10, 0, 10, 0, 6), (1, 3, 9), (10,)), [-6])

    def test_line_that_bears_0(self):
        self.assertEqual(best_of(begins(10, 2, 8, 0, 5), (0, 8, 10), (5,)), [1, 5, 1, 1])

    def test_slack_hangings_are_not_counted(self):
        self.assertEqual(best_of(begins(10, 2, 8, 0, 100), (0, 10, 2, 8), (5,)), [2, 5, 1, 2])

    def test_earliest_hanging_of_all_need_not_hold(self):
        told = ask_rows(begins(10, 2, 8, 0, 100), peg(0), peg(3), peg(7), piece(6), piece(6), hang(0, 1), best())
        self.assertEqual(told[-2:], [[0, 13, 1, -1, 1], [2, 6, 1, 1, 2]])


class FullBatten(unittest.TestCase):
    def test_pieces_of_one_weight(self):
        told = best_of(begins(100, 0, 100, 0, 25), (0, 25, 50, 75, 100), (10,) * 5)
        self.assertEqual(told, [120, 25, 1, 0, 1, 2, 3, 4])
        self.assertEqual(best_of(begins(100, 0, 100, 0, 24), (0, 25, 50, 75, 100), (10,) * 5), [-6])

    def test_two_weights(self):
        # The two heavy ones hang opposite each other; the others have whatever is left.
        told = best_of(begins(100, 0, 100, 0, 1000), (0, 25, 50, 75, 100), (10, 90, 10, 90, 10))
        self.assertEqual(told, [24, 105, 1, 0, 1, 2, 3, 4])

    def test_earliest_has_a_high_peg_first(self):
        # The heavy one hangs in the middle, from peg 4; the others weigh the same, so they may hang anyhow.
        told = best_of(begins(4, 0, 4, 0, 100000), (0, 1, 3, 4, 2), (1000, 1, 1, 1, 1))
        self.assertEqual(told, [24, 502, 1, 4, 0, 1, 2, 3])

    def test_greatest_numbers(self):
        told = best_of(begins(1000, 0, 1000, 10000, 100000), (1000, 999, 0, 1, 500), (10000,) * 5)
        self.assertEqual(told, [120, 30000, 1, 0, 1, 2, 3, 4])


if __name__ == "__main__":
    unittest.main()
