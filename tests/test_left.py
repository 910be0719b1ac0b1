"""left: what is left of a board when a plan is sawn (promise 4)."""

import itertools
import unittest

from sawnstock.stock import check, judge, left
from tests.helper import (
    Dice, EachCallByItself, FAR, REFUSED, SMALL_STOCKS, bytes_of, left_plainly, read_plainly, stock_text,
)


class Left(unittest.TestCase):
    def check(self, b, text, plan, answer):
        with self.subTest(b=b, text=text[:80], plan=plan):
            self.assertEqual(left(b, bytes_of(text), plan), answer)


class WhatIsLeft(Left):
    def test_a_board_that_no_block_is_cut_from(self):
        for kerf in (0, 3, 16):
            text = stock_text(kerf, [(100, 7), (1, 9), (4096, 20)], [(20, 1), (10, 1)])
            self.check(1, text, [0, 0], [1])
            self.check(2, text, [0, 0], [4096])
            self.check(0, text, [2, 2], [100])
            self.check(1, text, [0, 2], [1])

    def test_one_block(self):
        for kerf, rest in ((0, 80), (1, 79), (3, 77), (16, 64)):
            text = stock_text(kerf, [(100, 7), (50, 9)], [(20, 1)])
            self.check(0, text, [0], [rest])
            self.check(1, text, [1], [rest - 50])

    def test_several_blocks(self):
        blocks = [(20, 2), (10, 1)]
        for kerf in (0, 1, 3, 16):
            text = stock_text(kerf, [(100, 7), (101, 9), (60, 1)], blocks)
            self.check(0, text, [0, 0, 0], [max(0, 50 - 3 * kerf)])
            self.check(1, text, [1, 1, 1], [51 - 3 * kerf])
            self.check(0, text, [0, 1, 0], [70 - 2 * kerf])
            self.check(1, text, [0, 1, 0], [81 - kerf])
            self.check(2, text, [0, 1, 0], [60])
            self.check(2, text, [0, 1, 2], [50 - kerf])
            self.check(2, text, [2, 1, 0], [40 - kerf])

    def test_eight_blocks(self):
        self.check(0, stock_text(0, [(4096, 1)], [(10, 8)]), [0] * 8, [4016])
        self.check(0, stock_text(16, [(4096, 1)], [(10, 8)]), [0] * 8, [3888])
        text = stock_text(16, [(50 + place, 1) for place in range(8)], [(10, 8)])
        for b in range(8):
            self.check(b, text, [0, 1, 2, 3, 4, 5, 6, 7], [24 + b])

    def test_what_a_board_costs_is_nothing_to_it(self):
        for cost in (1, 1000):
            self.check(0, stock_text(3, [(100, cost)], [(20, 1)]), [0], [77])


class NeverBelow0(Left):
    def test_a_board_that_its_blocks_just_fill(self):
        for kerf in (0, 1, 16):
            self.check(0, stock_text(kerf, [(20, 1)], [(20, 1)]), [0], [0])
            self.check(0, stock_text(kerf, [(160 + 7 * kerf, 1)], [(20, 8)]), [0] * 8, [0])
            self.check(1, stock_text(kerf, [(9, 1), (40 + kerf, 1)], [(20, 2)]), [1, 1], [0])

    def test_the_last_cut_runs_off_the_end(self):
        for kerf in (1, 2, 16):
            for spare in range(2 * kerf):
                rest = max(0, spare - kerf)
                self.check(0, stock_text(kerf, [(20 + spare, 1)], [(20, 1)]), [0], [rest])
                self.check(0, stock_text(kerf, [(60 + 2 * kerf + spare, 1)], [(20, 3)]), [0] * 3, [rest])


class NoPlan(Left):
    TEXT = stock_text(3, [(100, 7), (50, 9), (100, 20)], [(20, 2), (10, 1)])
    TIGHT = stock_text(3, [(10, 1), (10, 1)], [(20, 3)])

    def test_alone(self):
        for b in range(3):
            for plan in ([], [0], [0, 0], [0, 0, 0, 0], [0] * 100, [0, 0, 3], [3, 0, 0], [0, FAR, 0], [FAR] * 100):
                self.check(b, self.TEXT, plan, [-1])

    def test_ahead_of_no_such_board(self):
        for b in (3, 4, FAR):
            for plan in ([], [0, 0], [0, 0, 0, 0], [0, 0, 3], [FAR, 0, 0], [0] * 100):
                self.check(b, self.TEXT, plan, [-1])

    def test_ahead_of_not_right(self):
        for b in (0, 1, 2, FAR):
            for plan in ([0, 0], [0, 0, 0, 0], [0, 0, 2], [2, 0, 0], [0, 0, FAR], [0] * 100):
                self.check(b, self.TIGHT, plan, [-1])


class NoSuchBoard(Left):
    def test_alone(self):
        for b in (3, 4, 7, 8, 100, 256, 65536, FAR - 1, FAR):
            for plan in ([0, 0, 0], [2, 2, 2], [0, 1, 2]):
                self.check(b, NoPlan.TEXT, plan, [-4])
        for boards in range(1, 9):
            text = stock_text(0, [(100, 1)] * boards, [(20, 1)])
            self.check(boards - 1, text, [0], [80] if boards == 1 else [100])
            self.check(boards, text, [0], [-4])
            self.check(FAR, text, [0], [-4])

    def test_ahead_of_not_right(self):
        for b in (2, 3, FAR):
            self.check(b, NoPlan.TIGHT, [0, 0, 0], [-4])
            self.check(b, NoPlan.TIGHT, [1, 0, 1], [-4])


class NotRight(Left):
    def test_at_the_board_itself(self):
        self.check(1, NoPlan.TEXT, [1, 1, 1], [-8])
        self.check(0, stock_text(0, [(19, 1)], [(20, 1)]), [0], [-8])
        self.check(0, stock_text(16, [(191, 1)], [(10, 8)]), [0] * 8, [-8])

    def test_at_another_board(self):
        for b in (0, 2):
            self.check(b, NoPlan.TEXT, [1, 1, 1], [-8])
        text = stock_text(0, [(30, 1), (30, 1), (5, 1)], [(10, 3)])
        for b in range(3):
            self.check(b, text, [0, 1, 2], [-8])
            self.check(b, text, [2, 1, 0], [-8])
        self.check(0, text, [0, 1, 1], [20])


class RefusedTexts(Left):
    def test_ahead_of_all_others(self):
        for text, answer in REFUSED:
            self.assertEqual(judge(bytes_of(text)), answer)
            for b in (0, 1, 8, FAR):
                for plan in ([], [0], [0, 0], [0] * 100, [FAR], [FAR] * 100):
                    self.check(b, text, plan, answer)


class AsCheckAnswers(Left):
    def agree(self, b, text, plan):
        """left beside check: -1 and -8 of the same plans, though -4 stands between them."""
        kerf, boards, blocks = read_plainly(text)
        told = left(b, bytes_of(text), list(plan))
        checked = check(bytes_of(text), list(plan))
        there = b < len(boards)
        self.assertEqual(told == [-1], checked == [-1], (b, text, plan))
        self.assertEqual(told == [-4], checked != [-1] and not there, (b, text, plan))
        self.assertEqual(told == [-8], checked[0] == -8 and there, (b, text, plan))
        self.assertEqual(told, left_plainly(b, text, plan), (b, text, plan))
        return checked[0]

    def test_every_plan_of_some_stocks(self):
        for text in SMALL_STOCKS:
            for count in range(6):
                for plan in itertools.product(range(4), repeat=count):
                    for b in (0, 1, 2, 3, FAR):
                        self.agree(b, text, plan)

    def test_many_stocks_and_plans(self):
        dice = Dice(10)
        seen = {}
        for turn in range(2000):
            text = dice.stock()
            kerf, boards, blocks = read_plainly(text)
            plan = dice.throws(len(blocks), 0, len(boards) - 1)
            for b in range(len(boards) + 1):
                number = self.agree(b, text, plan)
                seen[number] = seen.get(number, 0) + 1
        # Without enough of both the many would say little.
        self.assertGreater(min(seen[0], seen[-8]), 1000)


class LeftByItself(EachCallByItself, unittest.TestCase):
    CALL = staticmethod(left)
    ROWS = ([[0, bytes_of(text), [0, 1]] for text, answer in REFUSED]
            + [[b, bytes_of(NoPlan.TEXT), plan] for b in (0, 1, 3, FAR) for plan in
               ([0, 0, 0], [2, 1, 0], [1, 1, 1], [], [0, 0], [3, 0, 0], [FAR, 0, 0], [0] * 100)])


if __name__ == "__main__":
    unittest.main()
