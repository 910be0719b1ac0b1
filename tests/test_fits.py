"""fits: whether a set of blocks can all be cut from one board (promises 3 and 4)."""

import itertools
import unittest

from sawnstock.stock import fits, judge
from tests.helper import Dice, EachCallByItself, FAR, REFUSED, bytes_of, fits_plainly, read_plainly, stock_text

ALL = [0, 1, 2, 3, 4, 5, 6, 7]


class Fits(unittest.TestCase):
    def check(self, b, text, blocks, answer):
        with self.subTest(b=b, text=text[:80], blocks=blocks):
            self.assertEqual(fits(b, bytes_of(text), blocks), answer)


class OneOrNone(Fits):
    def test_no_block_always_fits(self):
        for kerf in (0, 3, 16):
            for boards in range(1, 9):
                text = stock_text(kerf, [(1, 1000)] * boards, [(4096, 8)])
                for b in range(boards):
                    self.check(b, text, [], [1])

    def test_one_block(self):
        for kerf in (0, 1, 16):
            text = stock_text(kerf, [(20, 1), (19, 1), (21, 1)], [(20, 1), (21, 1), (1, 1), (4096, 1)])
            for b, row in enumerate(([1, 0, 1, 0], [0, 0, 1, 0], [1, 1, 1, 0])):
                for block, answer in enumerate(row):
                    self.check(b, text, [block], [answer])

    def test_several_blocks(self):
        text = stock_text(3, [(43, 1), (63, 1), (20, 1), (68, 1)], [(20, 1), (30, 1), (10, 2)])
        for blocks, row in (([0, 1], [0, 1, 0, 1]), ([0, 2], [1, 1, 0, 1]), ([2, 3], [1, 1, 0, 1]),
                            ([1, 2], [1, 1, 0, 1]), ([1, 2, 3], [0, 1, 0, 1]), ([0, 2, 3], [0, 1, 0, 1]),
                            ([0, 1, 3], [0, 0, 0, 1]), ([0, 1, 2, 3], [0, 0, 0, 0])):
            for b, answer in enumerate(row):
                self.check(b, text, blocks, [answer])

    def test_just_at_the_length_and_one_above(self):
        for kerf in (0, 1, 16):
            for count in range(1, 9):
                needed = 20 * count + kerf * (count - 1)
                text = stock_text(kerf, [(needed, 1), (needed - 1, 1), (needed + 1, 1)], [(20, 8)])
                for blocks in itertools.combinations(ALL, count):
                    for b, answer in enumerate((1, 0, 1)):
                        self.check(b, text, list(blocks), [answer])

    def test_all_eight_of_unlike_lengths(self):
        blocks = [(length, 1) for length in (1, 2, 3, 4, 5, 6, 7, 8)]
        for kerf, needed in ((0, 36), (1, 43), (16, 148)):
            self.check(0, stock_text(kerf, [(needed, 1)], blocks), ALL, [1])
            self.check(0, stock_text(kerf, [(needed - 1, 1)], blocks), ALL, [0])
        self.check(0, stock_text(16, [(4096, 1)], [(498, 8)]), ALL, [1])
        self.check(0, stock_text(16, [(4096, 1)], [(4096, 8)]), ALL, [0])


class NoSet(Fits):
    TEXT = stock_text(3, [(100, 7), (50, 9), (10, 20)], [(20, 2), (10, 1)])
    EIGHT = stock_text(3, [(4096, 7)] * 8, [(20, 8)])

    def check_all(self, text, lists):
        """-1 of each, also where b is no board."""
        for blocks in lists:
            for b in (0, 1, 2, 3, 8, FAR):
                self.check(b, text, blocks, [-1])

    def test_a_list_that_does_not_rise(self):
        self.check_all(self.TEXT, ([1, 0], [2, 0], [2, 1], [0, 2, 1], [1, 0, 2], [2, 1, 0]))
        self.check_all(self.EIGHT, ([0, 1, 2, 3, 4, 5, 7, 6], [7, 0], ALL[::-1], ALL[1:] + [0]))

    def test_the_same_number_twice(self):
        self.check_all(self.TEXT, ([0, 0], [1, 1], [2, 2], [0, 0, 1], [0, 1, 1], [0, 1, 0], [0, 1, 2, 2]))
        self.check_all(self.EIGHT, ([7, 7], ALL + [7], [0] + ALL))

    def test_a_block_that_is_not_there(self):
        for block in (3, 4, 7, 8, 256, 65536, FAR - 1, FAR):
            self.check_all(self.TEXT, ([block], [0, block], [0, 1, 2, block]))
        for block in (8, 9, FAR):
            self.check_all(self.EIGHT, ([block], ALL + [block]))
        for count in range(1, 9):
            text = stock_text(0, [(4096, 1)], [(20, count)])
            self.check(0, text, [count - 1], [1])
            self.check(0, text, [count], [-1])

    def test_100_numbers(self):
        self.check_all(self.TEXT, ([0] * 100, list(range(100)), [FAR] * 100, list(range(FAR - 99, FAR + 1))))
        self.check_all(self.EIGHT, ([0] * 100, list(range(100)), ALL + [7] * 92))


class NoSuchBoard(Fits):
    def test_just_outside_and_far(self):
        for boards in range(1, 9):
            text = stock_text(3, [(20, 1)] * boards, [(20, 2)])
            for blocks, answer in (([], [1]), ([0], [1]), ([1], [1]), ([0, 1], [0])):
                self.check(boards - 1, text, blocks, answer)
                for b in (boards, boards + 1, 256, 65536, FAR - 1, FAR):
                    self.check(b, text, blocks, [-4])


class RefusedTexts(Fits):
    def test_ahead_of_all_others(self):
        for text, answer in REFUSED:
            self.assertEqual(judge(bytes_of(text)), answer)
            for b in (0, 1, 8, FAR):
                for blocks in ([], [0], [0, 1], [1, 0], [0] * 100, [FAR], [FAR] * 100):
                    self.check(b, text, blocks, answer)


class BesideTheWords(Fits):
    def test_every_short_list(self):
        for text in (
            stock_text(0, [(30, 5), (20, 4)], [(10, 2), (20, 1)]),
            stock_text(3, [(23, 1), (43, 2)], [(10, 2), (20, 1)]),
            stock_text(16, [(26, 1), (42, 2)], [(5, 1), (10, 2)]),
        ):
            for count in range(5):
                for blocks in itertools.product(range(4), repeat=count):
                    for b in range(4):
                        self.check(b, text, list(blocks), fits_plainly(b, text, blocks))

    def test_many_stocks(self):
        dice = Dice(11)
        seen = {}
        for turn in range(1000):
            text = dice.stock()
            kerf, boards, lengths = read_plainly(text)
            blocks = [block for block in range(len(lengths)) if dice.throw(0, 2) == 0]
            for b in range(len(boards)):
                answer = fits_plainly(b, text, blocks)
                seen[answer[0]] = seen.get(answer[0], 0) + 1
                self.check(b, text, blocks, answer)
        # Without enough of both the many would say little.
        self.assertGreater(min(seen[0], seen[1]), 500)


class FitsByItself(EachCallByItself, unittest.TestCase):
    CALL = staticmethod(fits)
    ROWS = ([[0, bytes_of(text), [0, 1]] for text, answer in REFUSED]
            + [[b, bytes_of(NoSet.TEXT), blocks] for b in (0, 1, 2, 3, FAR) for blocks in
               ([], [0], [0, 1], [0, 1, 2], [1, 0], [0, 0], [3], [FAR], [0] * 100)])


if __name__ == "__main__":
    unittest.main()
