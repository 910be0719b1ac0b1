"""check: what a right plan costs and uses, or what is wrong with it (promise 4)."""

import itertools
import unittest

from sawnstock.stock import check, judge
from tests.helper import (
    Dice, EachCallByItself, FAR, REFUSED, SMALL_STOCKS, bytes_of, checked_plainly, read_plainly, stock_text,
)


class Checking(unittest.TestCase):
    def check(self, text, plan, answer):
        with self.subTest(text=text[:80], plan=plan):
            self.assertEqual(check(bytes_of(text), plan), answer)


class RightPlans(Checking):
    def test_one_board_one_block(self):
        self.check("kerf 0\nboard 1 1\nblock 1 1\n", [0], [0, 1, 1])
        self.check("kerf 16\nboard 4096 1000\nblock 4096 1\n", [0], [0, 1000, 1])

    def test_all_blocks_on_one_board(self):
        text = stock_text(3, [(100, 7), (50, 9), (100, 20)], [(20, 2), (10, 1)])
        self.check(text, [0, 0, 0], [0, 7, 1])
        self.check(text, [2, 2, 2], [0, 20, 1])

    def test_blocks_on_several_boards(self):
        text = stock_text(3, [(100, 7), (50, 9), (100, 20)], [(20, 2), (10, 1)])
        self.check(text, [0, 1, 0], [0, 16, 2])
        self.check(text, [2, 0, 0], [0, 27, 2])
        self.check(text, [2, 1, 0], [0, 36, 3])
        self.check(text, [1, 1, 2], [0, 29, 2])

    def test_boards_that_no_block_is_cut_from_cost_nothing(self):
        boards = [(100, cost) for cost in (1, 2, 4, 8, 16, 32, 64, 128)]
        for board in range(8):
            self.check(stock_text(0, boards, [(50, 2)]), [board, board], [0, 2 ** board, 1])
        # A board that none is cut from is never overfull, however short it is.
        self.check(stock_text(16, [(1, 1000), (100, 5), (1, 1000)], [(50, 1)]), [1], [0, 5, 1])

    def test_every_set_of_boards_used(self):
        boards = [(100, cost) for cost in (1, 2, 4, 8)]
        for plan in itertools.product(range(4), repeat=4):
            answer = [0, sum(2 ** board for board in set(plan)), len(set(plan))]
            self.check(stock_text(0, boards, [(25, 4)]), list(plan), answer)

    def test_boards_of_one_length_and_unlike_cost(self):
        text = stock_text(2, [(100, 3), (100, 5), (100, 1000)], [(40, 2)])
        for plan, cost in (([0, 0], 3), ([1, 1], 5), ([2, 2], 1000), ([0, 1], 8), ([2, 1], 1005)):
            self.check(text, plan, [0, cost, len(set(plan))])

    def test_blocks_of_one_line_on_unlike_boards(self):
        boards = [(10, cost) for cost in (1, 2, 3, 4, 5, 6, 7, 8)]
        self.check(stock_text(16, boards, [(10, 8)]), list(range(8)), [0, 36, 8])
        self.check(stock_text(16, boards, [(10, 8)]), [7, 5, 3, 1, 0, 2, 4, 6], [0, 36, 8])
        # Of the first line's three blocks the last, of the second line's two the first go together.
        self.check(stock_text(0, [(20, 1), (11, 2), (6, 4)], [(10, 3), (1, 2)]), [0, 0, 1, 1, 2], [0, 7, 3])

    def test_dearest_of_all(self):
        self.check(stock_text(0, [(4096, 1000)] * 8, [(4096, 8)]), list(range(8)), [0, 8000, 8])


class JustAtTheLength(Checking):
    def check_around(self, kerf, blocks, needed):
        """All blocks on board 1: a board that's just long enough, longer ones, and shorter ones."""
        count = sum(n for length, n in blocks)
        for spare in (0, 1, kerf, 500):
            text = stock_text(kerf, [(1, 1), (needed + spare, 7)], blocks)
            self.check(text, [1] * count, [0, 7, 1])
        for over in (1, 2, needed - 1):
            if 0 < over < needed:
                text = stock_text(kerf, [(4096, 1), (needed - over, 7)], blocks)
                self.check(text, [1] * count, [-8, 1, over])

    def test_one_block(self):
        for kerf in (0, 1, 16):
            for length in (1, 2, 16, 17, 3000):
                self.check_around(kerf, [(length, 1)], length)

    def test_two_blocks(self):
        self.check_around(0, [(30, 1), (50, 1)], 80)
        self.check_around(1, [(30, 1), (50, 1)], 81)
        self.check_around(16, [(30, 1), (50, 1)], 96)
        self.check_around(16, [(1, 2)], 18)

    def test_eight_blocks(self):
        self.check_around(0, [(10, 8)], 80)
        self.check_around(1, [(10, 8)], 87)
        self.check_around(16, [(10, 8)], 192)
        self.check_around(16, [(1, 1), (2, 3), (100, 4)], 407 + 112)

    def test_longest_of_all(self):
        self.check(stock_text(16, [(4096, 1)], [(4096, 8)]), [0] * 8, [-8, 0, 7 * 4096 + 7 * 16])
        self.check(stock_text(0, [(1, 1)], [(4096, 8)]), [0] * 8, [-8, 0, 8 * 4096 - 1])
        self.check(stock_text(16, [(1, 1)], [(4096, 8)]), [0] * 8, [-8, 0, 8 * 4096 + 7 * 16 - 1])


class Overfull(Checking):
    def test_the_first_board_that_is_overfull(self):
        text = stock_text(3, [(30, 1), (20, 2), (10, 3)], [(25, 3)])
        self.check(text, [0, 1, 2], [-8, 1, 5])
        self.check(text, [2, 1, 0], [-8, 1, 5])
        self.check(text, [2, 0, 0], [-8, 0, 23])
        self.check(text, [2, 2, 0], [-8, 2, 43])
        self.check(text, [1, 1, 1], [-8, 1, 61])
        self.check(text, [2, 2, 2], [-8, 2, 71])
        self.check(text, [0, 2, 1], [-8, 1, 5])

    def test_the_least_overfull_is_told_where_it_is_the_first(self):
        self.check(stock_text(0, [(9, 1), (1, 1)], [(10, 2)]), [1, 0], [-8, 0, 1])
        self.check(stock_text(0, [(1, 1), (9, 1)], [(10, 2)]), [1, 0], [-8, 0, 9])

    def test_the_last_board(self):
        boards = [(50, 1)] * 7 + [(49, 1)]
        self.check(stock_text(0, boards, [(50, 8)]), list(range(8)), [-8, 7, 1])


class NoPlan(Checking):
    TEXT = stock_text(3, [(100, 7), (50, 9), (100, 20)], [(20, 2), (10, 1)])
    ONE = stock_text(0, [(10, 1)], [(10, 1)])
    ALL = stock_text(0, [(10, 1)] * 8, [(10, 8)])

    def test_not_a_board_for_each_block(self):
        for plan in ([], [0], [0, 0], [0, 0, 0, 0], [0] * 100, [1] * 99):
            self.check(self.TEXT, plan, [-1])
        for plan in ([], [0, 0], [0] * 100):
            self.check(self.ONE, plan, [-1])
        for plan in ([], list(range(7)), list(range(8)) + [0], [0] * 100):
            self.check(self.ALL, plan, [-1])

    def test_a_board_that_is_not_there(self):
        for board in (3, 4, 8, 255, 256, 65536, FAR - 1, FAR):
            for place in range(3):
                plan = [0, 1, 2]
                plan[place] = board
                self.check(self.TEXT, plan, [-1])
        for board in (1, 2, FAR):
            self.check(self.ONE, [board], [-1])
        for board in (8, 9, FAR):
            self.check(self.ALL, [0, 1, 2, 3, 4, 5, 6, board], [-1])
        self.check(self.ALL, [FAR] * 8, [-1])

    def test_both(self):
        self.check(self.TEXT, [3], [-1])
        self.check(self.TEXT, [FAR] * 100, [-1])

    def test_ahead_of_overfull(self):
        text = stock_text(3, [(10, 1), (10, 1)], [(20, 3)])
        for plan in ([0, 0], [0, 0, 0, 0], [0, 0, 2], [2, 0, 0], [0, 2, 0], [0, 0, FAR], [0] * 100):
            self.check(text, plan, [-1])
        self.check(text, [0, 0, 0], [-8, 0, 56])


class RefusedTexts(Checking):
    def test_ahead_of_all_that_is_said_of_the_plan(self):
        for text, answer in REFUSED:
            self.assertEqual(judge(bytes_of(text)), answer)
            for plan in ([], [0], [0, 0], [0] * 100, [FAR], [FAR] * 100):
                self.check(text, plan, answer)


class BesideTheWords(Checking):
    def test_every_plan_of_some_stocks(self):
        for text in SMALL_STOCKS:
            for count in range(6):
                for plan in itertools.product(range(4), repeat=count):
                    self.check(text, list(plan), checked_plainly(text, plan))

    def test_many_stocks_and_plans(self):
        dice = Dice(6)
        seen = {}
        for turn in range(3000):
            text = dice.stock()
            kerf, boards, blocks = read_plainly(text)
            plan = dice.throws(len(blocks), 0, len(boards) - 1)
            answer = checked_plainly(text, plan)
            seen[answer[0]] = seen.get(answer[0], 0) + 1
            self.check(text, plan, answer)
        # Without enough of both the many would say little.
        self.assertGreater(min(seen[0], seen[-8]), 300)


class CheckByItself(EachCallByItself, unittest.TestCase):
    CALL = staticmethod(check)
    ROWS = ([[bytes_of(text), [0, 1]] for text, answer in REFUSED]
            + [[bytes_of(NoPlan.TEXT), plan] for plan in
               ([0, 0, 0], [2, 1, 0], [1, 1, 1], [], [0, 0], [3, 0, 0], [FAR, 0, 0], [0] * 100)]
            + [[bytes_of(NoPlan.ALL), plan] for plan in ([0, 1, 2, 3, 4, 5, 6, 7], [7] * 8)])


if __name__ == "__main__":
    unittest.main()
