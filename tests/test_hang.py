"""Promise 3: hang, and what the lines bear."""

import unittest

from tests.calls import HUGE, ask_last, ask_rows, begins, hang, peg, piece

THREE_PEGS = (begins(10, 2, 8, 0, 1000), peg(3), peg(5), peg(9))


def hung(batten, *places_and_weights):
    """What hang answers where the pieces hang, one behind another, at these places with these weights."""
    pegs = [peg(place) for place, weight in places_and_weights]
    pieces = [piece(weight) for place, weight in places_and_weights]
    return ask_last(batten, *pegs, *pieces, hang(*range(len(pegs))))


class Bears(unittest.TestCase):
    def test_one_piece(self):
        rows = (
            (0, [1, 10, 1, 0, 1]), (3, [1, 7, 1, 3, 1]), (5, [1, 5, 1, 5, 1]), (10, [1, 0, 1, 10, 1]),
        )
        for place, due in rows:
            with self.subTest(place=place):
                self.assertEqual(hung(begins(10, 0, 10, 0, 1000), (place, 10)), due)

    def test_lines_that_are_not_at_the_ends(self):
        self.assertEqual(hung(begins(10, 2, 8, 0, 1000), (4, 3)), [1, 2, 1, 1, 1])
        self.assertEqual(hung(begins(10, 1, 4, 0, 1000), (2, 9)), [1, 6, 1, 3, 1])

    def test_several_pieces_together(self):
        self.assertEqual(hung(begins(10, 0, 10, 0, 1000), (1, 10), (8, 20)), [1, 13, 1, 17, 1])
        self.assertEqual(hung(begins(10, 0, 10, 6, 1000), (1, 10), (8, 20), (0, 5)), [1, 21, 1, 20, 1])

    def test_pegs_stand_in_the_order_of_the_pieces(self):
        before = (begins(10, 0, 10, 0, 1000), peg(1), peg(8), piece(10), piece(20))
        self.assertEqual(ask_last(*before, hang(0, 1)), [1, 13, 1, 17, 1])
        self.assertEqual(ask_last(*before, hang(1, 0)), [1, 20, 1, 10, 1])

    def test_pegs_are_told_by_number_and_not_by_place(self):
        before = (begins(10, 0, 10, 0, 1000), peg(9), peg(2), peg(0), piece(10))
        told = ask_rows(*before, hang(0), hang(1), hang(2))[-3:]
        self.assertEqual(told, [[1, 1, 1, 9, 1], [1, 8, 1, 2, 1], [1, 10, 1, 0, 1]])

    def test_lowest_terms(self):
        rows = (
            (begins(6, 0, 6, 0, 1000), (2, 1), [1, 2, 3, 1, 3]),
            (begins(6, 0, 6, 0, 1000), (3, 1), [1, 1, 2, 1, 2]),
            (begins(7, 0, 7, 0, 1000), (3, 1), [1, 4, 7, 3, 7]),
            (begins(12, 0, 12, 0, 1000), (4, 9), [1, 6, 1, 3, 1]),
            (begins(12, 0, 12, 0, 1000), (3, 2), [1, 3, 2, 1, 2]),
            (begins(1000, 0, 999, 0, 1000), (333, 10), [1, 20, 3, 10, 3]),
        )
        for batten, place_and_weight, due in rows:
            with self.subTest(batten=batten, piece=place_and_weight):
                self.assertEqual(hung(batten, place_and_weight), due)


class OwnWeight(unittest.TestCase):
    def test_it_hangs_in_the_middle_of_the_batten(self):
        self.assertEqual(hung(begins(10, 2, 8, 100, 1000)), [1, 50, 1, 50, 1])
        self.assertEqual(hung(begins(10, 0, 8, 100, 1000)), [1, 75, 2, 125, 2])
        self.assertEqual(hung(begins(10, 0, 5, 100, 1000)), [1, 0, 1, 100, 1])
        self.assertEqual(hung(begins(10, 5, 10, 100, 1000)), [1, 100, 1, 0, 1])

    def test_half_length_that_is_not_whole(self):
        self.assertEqual(hung(begins(1, 0, 1, 1, 1000)), [1, 1, 2, 1, 2])
        self.assertEqual(hung(begins(3, 0, 2, 1, 1000)), [1, 1, 4, 3, 4])
        self.assertEqual(hung(begins(3, 1, 2, 10, 1000)), [1, 5, 1, 5, 1])
        self.assertEqual(hung(begins(5, 0, 3, 1, 1000), (1, 1)), [1, 5, 6, 7, 6])
        self.assertEqual(hung(begins(3, 0, 1, 1, 1000)), [0, -1, 2, 3, 2])
        self.assertEqual(hung(begins(999, 499, 500, 1, 1)), [1, 1, 2, 1, 2])

    def test_it_may_lie_beyond_a_line(self):
        self.assertEqual(hung(begins(10, 0, 2, 6, 1000)), [0, -9, 1, 15, 1])
        self.assertEqual(hung(begins(10, 8, 10, 6, 1000)), [0, 15, 1, -9, 1])

    def test_no_pieces_at_all(self):
        self.assertEqual(ask_last(hang()), [1, 0, 1, 0, 1])
        self.assertEqual(ask_last(begins(9, 3, 7, 0, 0), hang()), [1, 0, 1, 0, 1])
        self.assertEqual(ask_last(peg(0), peg(1), hang()), [1, 0, 1, 0, 1])


class Holds(unittest.TestCase):
    def test_slack_line(self):
        rows = (
            ((10, 3), [0, -1, 1, 4, 1]), ((10, 2), [0, -2, 3, 8, 3]),
            ((0, 3), [0, 4, 1, -1, 1]), ((0, 2), [0, 8, 3, -2, 3]),
        )
        for place_and_weight, due in rows:
            with self.subTest(piece=place_and_weight):
                self.assertEqual(hung(begins(10, 2, 8, 0, 1000), place_and_weight), due)

    def test_line_that_bears_a_little_less_than_0(self):
        self.assertEqual(hung(begins(1000, 0, 999, 0, 100000), (1000, 1)), [0, -1, 999, 1000, 999])
        self.assertEqual(hung(begins(1000, 1, 1000, 0, 100000), (0, 1)), [0, 1000, 999, -1, 999])

    def test_line_that_bears_0_is_not_slack(self):
        self.assertEqual(hung(begins(10, 2, 8, 0, 1000), (8, 5)), [1, 0, 1, 5, 1])
        self.assertEqual(hung(begins(10, 2, 8, 0, 1000), (2, 5)), [1, 5, 1, 0, 1])

    def test_weights_on_both_sides_take_the_slack_away(self):
        self.assertEqual(hung(begins(10, 2, 8, 0, 1000), (10, 3), (2, 1)), [1, 0, 1, 4, 1])
        self.assertEqual(hung(begins(10, 2, 8, 2, 1000), (10, 3)), [1, 0, 1, 5, 1])
        self.assertEqual(hung(begins(10, 2, 8, 1, 1000), (10, 3)), [0, -1, 2, 9, 2])

    def test_just_what_a_line_may_bear(self):
        self.assertEqual(hung(begins(10, 0, 10, 0, 7), (3, 10)), [1, 7, 1, 3, 1])
        self.assertEqual(hung(begins(10, 0, 10, 0, 7), (7, 10)), [1, 3, 1, 7, 1])
        self.assertEqual(hung(begins(10, 0, 10, 0, 5), (5, 10)), [1, 5, 1, 5, 1])
        self.assertEqual(hung(begins(9, 0, 9, 10000, 5000)), [1, 5000, 1, 5000, 1])

    def test_more_than_a_line_may_bear(self):
        self.assertEqual(hung(begins(10, 0, 10, 0, 6), (3, 10)), [0, 7, 1, 3, 1])
        self.assertEqual(hung(begins(10, 0, 10, 0, 6), (7, 10)), [0, 3, 1, 7, 1])
        self.assertEqual(hung(begins(1, 0, 1, 1, 0)), [0, 1, 2, 1, 2])

    def test_a_little_more_than_a_line_may_bear(self):
        self.assertEqual(hung(begins(100, 0, 100, 0, 7), (29, 10)), [0, 71, 10, 29, 10])
        self.assertEqual(hung(begins(100, 0, 100, 0, 7), (71, 10)), [0, 29, 10, 71, 10])
        self.assertEqual(hung(begins(100, 0, 100, 0, 8), (29, 10)), [1, 71, 10, 29, 10])

    def test_batten_of_the_beginning_bears_0(self):
        self.assertEqual(ask_last(peg(1), piece(2), hang(0)), [0, 1, 1, 1, 1])
        self.assertEqual(ask_last(peg(0), piece(1), hang(0)), [0, 1, 1, 0, 1])

    def test_greatest_numbers(self):
        five = [(place, 10000) for place in (996, 997, 998, 999, 1000)]
        self.assertEqual(hung(begins(1000, 0, 1, 10000, 100000), *five), [0, -54840000, 1, 54900000, 1])
        five = [(place, 10000) for place in (0, 1, 2, 3, 4)]
        self.assertEqual(hung(begins(1000, 999, 1000, 10000, 100000), *five), [0, 54900000, 1, -54840000, 1])


class Refused(unittest.TestCase):
    def test_too_few_pegs(self):
        self.assertEqual(ask_last(*THREE_PEGS, piece(1), hang()), [-1])
        self.assertEqual(ask_last(*THREE_PEGS, piece(1), piece(1), hang(0)), [-1])
        self.assertEqual(ask_last(*THREE_PEGS, piece(1), piece(1), piece(1), hang(2, 1)), [-1])

    def test_too_many_pegs(self):
        self.assertEqual(ask_last(*THREE_PEGS, hang(0)), [-1])
        self.assertEqual(ask_last(*THREE_PEGS, piece(1), hang(0, 1)), [-1])
        self.assertEqual(ask_last(*THREE_PEGS, piece(1), hang(0, 1, 2)), [-1])
        self.assertEqual(ask_last(hang(0)), [-1])

    def test_every_count_up_to_8(self):
        five = [peg(place) for place in range(5)]
        for pieces in range(6):
            for count in range(9):
                with self.subTest(pieces=pieces, count=count):
                    told = ask_last(begins(9, 0, 9, 0, 0), *five, *[piece(1)] * pieces, hang(*range(count)))
                    self.assertEqual(len(told), 5 if count == pieces else 1)
                    self.assertEqual(told == [-1], count != pieces)

    def test_peg_that_there_is_not(self):
        for number in (3, 4, 5, 9, 1000, HUGE):
            with self.subTest(number=number):
                self.assertEqual(ask_last(*THREE_PEGS, piece(1), hang(number)), [-1])
                self.assertEqual(ask_last(*THREE_PEGS, piece(1), piece(1), hang(0, number)), [-1])
                self.assertEqual(ask_last(*THREE_PEGS, piece(1), piece(1), hang(number, 0)), [-1])
        self.assertEqual(ask_last(piece(1), hang(0)), [-1])

    def test_last_peg_is_there(self):
        self.assertEqual(ask_last(*THREE_PEGS, piece(6), hang(2)), [0, -1, 1, 7, 1])

    def test_two_the_same(self):
        two = (*THREE_PEGS, piece(1), piece(1))
        for number in (0, 1, 2, 3, HUGE):
            with self.subTest(number=number):
                self.assertEqual(ask_last(*two, hang(number, number)), [-1])
        three = (*two, piece(1))
        for pegs in ((0, 0, 1), (0, 1, 0), (1, 0, 0), (2, 2, 2)):
            with self.subTest(pegs=pegs):
                self.assertEqual(ask_last(*three, hang(*pegs)), [-1])

    def test_several_faults_at_once(self):
        self.assertEqual(ask_last(*THREE_PEGS, piece(1), hang(*[HUGE] * 8)), [-1])
        self.assertEqual(ask_last(*THREE_PEGS, piece(1), hang(7, 7)), [-1])

    def test_more_pieces_than_pegs(self):
        for pegs in ((0, 1), (0, 1, 0), (0, 1, 2)):
            with self.subTest(pegs=pegs):
                self.assertEqual(ask_last(peg(0), peg(2), *[piece(1)] * 3, hang(*pegs)), [-1])


if __name__ == "__main__":
    unittest.main()
