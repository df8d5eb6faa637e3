"""The whole program: all calls together, what refusals leave, and lists as long as they may be."""

import time
import unittest
from fractions import Fraction
from itertools import permutations, product
from random import Random

from pegsandbricks.batten import answers
from tests.calls import HUGE, ask_rows, begins, best, brick, hang, peg, piece, stack, taken_apart, written

FULL = [begins(999, 100, 900, 5000, 6000),
        peg(10), peg(200), peg(400), peg(777), peg(999),
        piece(100), piece(2000), piece(3333), piece(17), piece(909),
        brick(100, 8), brick(2000, 8), brick(333, 8), brick(17, 8)]

WRONG_CALLS = [begins(0, 0, 0, 0, 0), begins(10, 5, 5, 1, 1), begins(10, 0, 11, 1, 1), begins(10, 0, 10, 10001, 1),
               begins(10, 0, 10, 1, 100001), peg(1001), peg(400), peg(HUGE), piece(0), piece(10001), piece(HUGE),
               brick(0, 1), brick(10001, 1), brick(1, 9), brick(HUGE, HUGE),
               hang(0), hang(0, 1, 2, 3, 4, 5), hang(0, 1, 2, 3, 5), hang(0, 1, 2, 3, 3), hang(*[HUGE] * 8)]


class Plain:
    """The document once more, word by word and with fractions, to tell what is due."""

    def __init__(self):
        self.made = (2, 0, 2, 0, 0)
        self.pegs, self.pieces, self.bricks = [], [], []

    def due(self, call):
        names = ("begins", "peg", "piece", "brick", "hang", "best", "stack")
        name = names[call[0]]
        return getattr(self, name)(*call[2 if name == "hang" else 1:])

    def begins(self, *numbers):
        long, left, right, weight, bear = numbers
        lines_are_there = 0 <= left <= long and 0 <= right <= long and left < right
        if not (1 <= long <= 1000 and lines_are_there and weight <= 10000 and bear <= 100000):
            return [-1]
        self.__init__()
        self.made = numbers
        return [0]

    def number(self, kept, thing, most, right):
        if not right:
            return [-1]
        if len(kept) == most:
            return [-5]
        kept.append(thing)
        return [len(kept) - 1]

    def peg(self, place):
        return self.number(self.pegs, place, 5, place <= self.made[0] and place not in self.pegs)

    def piece(self, weight):
        return self.number(self.pieces, weight, 5, 1 <= weight <= 10000)

    def brick(self, weight, many):
        return self.number(self.bricks, (weight, many), 4, 1 <= weight <= 10000 and many <= 8)

    def bear(self, hanging):
        long, left, right, weight, bear = self.made
        hung = [(weight, Fraction(long, 2))] + [(self.pieces[n], self.pegs[at]) for n, at in enumerate(hanging)]
        on_left = sum(Fraction(heavy * (right - at), right - left) for heavy, at in hung)
        on_right = sum(heavy for heavy, at in hung) - on_left
        return int(0 <= on_left <= bear and 0 <= on_right <= bear), on_left, on_right

    def hangings(self):
        return list(permutations(range(len(self.pegs)), len(self.pieces)))

    def hang(self, *pegs):
        if pegs not in self.hangings():
            return [-1]
        held, on_left, on_right = self.bear(pegs)
        return [held, on_left.numerator, on_left.denominator, on_right.numerator, on_right.denominator]

    def best(self):
        found = [(max(self.bear(hanging)[1:]), hanging) for hanging in self.hangings() if self.bear(hanging)[0]]
        if not found:
            return [-6]
        heavier, earliest = min(found)
        ways = len([row for row in found if row[0] == heavier])
        return [ways, heavier.numerator, heavier.denominator, *earliest]

    def stack(self):
        goal = self.made[3] + sum(self.pieces)
        found = []
        for taken in product(*[range(many + 1) for weight, many in self.bricks]):
            weight = sum(kind[0] * many for kind, many in zip(self.bricks, taken))
            found.append((abs(weight - goal), sum(taken), taken))
        off, count, earliest = min(found)
        ways = len([row for row in found if row[:2] == (off, count)])
        return [off, count, ways, *earliest]


def some_begins(random):
    """Mostly a right one, with lines that may bear what hangs, wide apart."""
    long = random.choice((4, 9, 10, 12, random.randint(0, 1001)))
    left = random.randint(0, long // 3)
    right = random.randint(long // 2, long + random.randint(0, 1))
    weight = random.choice((0, 3, 8, random.randint(0, 10001)))
    bear = random.choice((5, 20, 100000, 100000, random.randint(0, 100001)))
    return begins(long, left, right, weight, bear)


def some_hang(random):
    pegs = random.sample(range(5), random.randint(0, 5))
    if random.random() < 0.2:
        pegs += random.choices((0, 1, 2, 5, HUGE), k=random.randint(1, 5))
    return hang(*pegs)


def some_call(random, names):
    name = random.choice(names)
    if name == "begins":
        return some_begins(random)
    if name == "peg":
        return peg(random.choice((random.randint(0, 4), random.randint(0, 12), random.randint(0, 1001))))
    if name == "piece":
        return piece(random.choice((1, 2, 2, 6, random.randint(0, 10001))))
    if name == "brick":
        return brick(random.choice((1, 2, 2, 5, random.randint(0, 10001))), random.randint(0, 9))
    if name == "hang":
        return some_hang(random)
    return best() if name == "best" else stack()


def some_calls(random):
    """Up to 80 calls, at most 10 of them best and stack: a batten or several that fill slowly."""
    calls = [some_begins(random)] if random.random() < 0.9 else []
    names = ["begins"] + ["peg"] * 9 + ["piece"] * 3 + ["brick"] * 3 + ["hang"] * 12 + ["best"] * 4 + ["stack"]
    asked = 0
    for turn in range(random.randint(1, 79)):
        call = some_call(random, names)
        asked += call[0] >= 5
        if asked <= 10 or call[0] < 5:
            calls.append(call)
    return calls


class AsTheDocumentSays(unittest.TestCase):
    def test_many_lists_of_calls(self):
        seen = {}
        for seed in range(120):
            calls = some_calls(Random(seed))
            plain = Plain()
            due = [plain.due(call) for call in calls]
            with self.subTest(calls=calls):
                self.assertEqual(ask_rows(*calls), due)
            for call, row in zip(calls, due):
                kind = (call[0], min(row[0], 0), row[0] == 1)
                seen[kind] = seen.get(kind, 0) + 1
        for kind in ((4, 0, True), (4, 0, False), (4, -1, False), (5, 0, True), (5, 0, False), (5, -6, False)):
            self.assertGreater(seen.get(kind, 0), 10, kind)

    def test_full_battens(self):
        for seed in range(12):
            random = Random(seed)
            calls = [begins(random.randint(900, 1000), random.randint(0, 300), random.randint(600, 900),
                            random.randint(0, 10000), 100000)]
            calls += [peg(place) for place in random.sample(range(901), 5)]
            calls += [piece(random.randint(1, random.choice((5, 10000)))) for turn in range(5)]
            calls += [brick(random.randint(1, random.choice((9, 2000))), 8) for turn in range(4)]
            calls += [best(), stack(), hang(*random.sample(range(5), 5))]
            plain = Plain()
            with self.subTest(calls=calls):
                self.assertEqual(ask_rows(*calls), [plain.due(call) for call in calls])


class Refusals(unittest.TestCase):
    def test_what_is_answered_behind_a_refusal_is_what_was_answered_ahead_of_it(self):
        shown = [best(), stack(), hang(0, 1, 2, 3, 4), hang(4, 2, 0, 1, 3)]
        due = ask_rows(*FULL, *shown)[len(FULL):]
        for call in WRONG_CALLS + [peg(5), piece(1), brick(1, 1)]:
            with self.subTest(call=call):
                told = ask_rows(*FULL, *shown, call, *shown)[len(FULL):]
                self.assertEqual(told[:4], due)
                self.assertIn(told[4], ([-1], [-5]))
                self.assertEqual(told[5:], due)

    def test_refused_best_changes_nothing(self):
        before = [begins(10, 0, 10, 3, 5), peg(1), piece(9), brick(6, 2)]
        told = ask_rows(*before, stack(), hang(0), best(), stack(), hang(0), best(), peg(2), piece(1), brick(1, 1))
        due = [[0, 2, 1, 2], [0, 48, 5, 12, 5], [-6]]
        self.assertEqual(told[4:], due + due + [[1], [1], [1]])

    def test_calls_that_only_show_change_nothing(self):
        shown = [hang(0, 1, 2, 3, 4), best(), stack()]
        told = ask_rows(*FULL, *shown * 5)[len(FULL):]
        self.assertEqual(told, told[:3] * 5)

    def test_refused_begins_leaves_each_of_its_numbers(self):
        before = [begins(20, 3, 17, 40, 27), peg(20), peg(0), piece(7), brick(9, 8)]
        shown = [hang(0), hang(1), best(), stack()]
        due = ask_rows(*before, *shown)[5:]
        self.assertEqual(due, [[0, 37, 2, 57, 2], [0, 57, 2, 37, 2], [-6], [2, 5, 1, 5]])
        for wrong in (begins(21, 4, 4, 41, 28), begins(19, 2, 20, 39, 29), begins(1001, 4, 18, 0, 100000),
                      begins(30, 4, 18, 10001, 100000), begins(30, 4, 18, 0, 100001)):
            with self.subTest(wrong=wrong):
                told = ask_rows(*before, wrong, *shown)
                self.assertEqual(told[5:], [[-1]] + due)


class BeginsAnew(unittest.TestCase):
    def test_begins_takes_pegs_pieces_and_bricks_away(self):
        told = ask_rows(*FULL, begins(10, 0, 8, 100, 63), best(), stack(), hang(), hang(0), piece(5), best(), hang(0))
        self.assertEqual(told[len(FULL):], [
            [0], [1, 125, 2], [100, 0, 1], [1, 75, 2, 125, 2], [-1], [0], [-6], [-1]])

    def test_begins_sets_each_of_its_numbers(self):
        told = ask_rows(begins(10, 0, 8, 100, 63), hang(), begins(10, 0, 8, 100, 62), hang(),
                        begins(10, 0, 8, 8, 62), hang(), begins(10, 0, 10, 8, 62), hang(),
                        begins(10, 4, 10, 6, 62), hang(), begins(12, 4, 10, 6, 62), hang())
        self.assertEqual(told[1::2], [[1, 75, 2, 125, 2], [0, 75, 2, 125, 2], [1, 3, 1, 5, 1], [1, 4, 1, 4, 1],
                                      [1, 5, 1, 1, 1], [1, 4, 1, 2, 1]])

    def test_as_on_a_batten_that_had_nothing_before(self):
        self.assertEqual(ask_rows(*FULL, *FULL, best(), stack())[len(FULL):], ask_rows(*FULL, best(), stack()))


class Form(unittest.TestCase):
    def test_how_many_numbers_are_answered(self):
        self.assertEqual(answers(written([peg(0), piece(4), brick(3, 1), best(), stack(), hang(0)])),
                         [1, 0, 1, 0, 1, 0, 1, -6, 4, 1, 1, 1, 1, 5, 0, 4, 1, 0, 1])
        self.assertEqual(len(answers(written(FULL + [best(), stack(), hang(0, 1, 2, 3, 4)]))), 15 * 2 + 9 + 8 + 6)

    def test_rows_that_look_like_calls(self):
        self.assertEqual(answers([4, 8, 4, 4, 5, 6, 6, 5, 4, 0, 4, 0, 6]), [1, -1, 5, 1, 0, 1, 0, 1, 3, 0, 0, 1])
        self.assertEqual(answers([4, 1, 0, 5, 4, 2, 5, 6, 5]), [1, -1, 3, 1, 0, 1, 1, -1, 3, 1, 0, 1])

    def test_answers_are_whole_numbers_and_never_true_or_false(self):
        told = answers(written(FULL + [best(), stack(), hang(0, 1, 2, 3, 4), hang(4, 3, 2, 1, 0), hang()]))
        self.assertIs(type(told), list)
        self.assertEqual([number for number in told if type(number) is not int], [])
        held = [row[0] for row in taken_apart(told) if len(row) == 5]
        self.assertEqual(held, [0, 1])


class AsLongAsItMayBe(unittest.TestCase):
    def eighty(self, shown):
        calls = FULL + shown
        return calls + [hang(n % 5, (n + 1) % 5, (n + 2) % 5, (n + 3) % 5, (n + 4) % 5)
                        for n in range(80 - len(calls))]

    def test_eighty_calls_with_ten_of_best_and_stack(self):
        for shown in ([stack()] * 10, [best()] * 10, [best(), stack()] * 5):
            calls = self.eighty(shown)
            self.assertEqual(len(calls), 80)
            self.assertLessEqual(len(written(calls)), 1000)
            plain = Plain()
            due = {tuple(call): plain.due(call) for call in FULL + calls[len(FULL):]}
            begun = time.process_time()
            told = ask_rows(*calls)
            self.assertLess(time.process_time() - begun, 5)
            self.assertEqual(told[len(FULL):], [due[tuple(call)] for call in calls[len(FULL):]])

    def test_list_stays_as_it_was_and_nothing_is_kept(self):
        calls = written(self.eighty([best(), stack()] * 5))
        copied = list(calls)
        first = answers(calls)
        self.assertEqual(calls, copied)
        self.assertEqual(answers(written([best(), stack(), hang(), piece(1), peg(1), hang(0)])),
                         [3, 1, 0, 1, 3, 0, 0, 1, 5, 1, 0, 1, 0, 1, 1, 0, 1, 0, 5, 0, 1, 2, 1, 2])
        self.assertEqual(answers(calls), first)


if __name__ == "__main__":
    unittest.main()
