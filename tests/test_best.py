"""best: no right plan costs less, none of as much uses fewer boards, none of these comes first (promise 2)."""

import itertools
import unittest

from sawnstock.stock import best, check, judge
from tests.helper import Dice, EachCallByItself, REFUSED, best_plainly, bytes_of, checked_plainly, stock_text


class Best(unittest.TestCase):
    def check(self, text, answer):
        with self.subTest(text=text[:200]):
            told = best(bytes_of(text))
            self.assertEqual(told, answer)
            if told[0] == 0:
                self.assertEqual(check(bytes_of(text), told[3:]), told[:3])

    def check_stock(self, kerf, boards, blocks, answer):
        self.check(stock_text(kerf, boards, blocks), answer)


class FewBoards(Best):
    def test_one_board_one_block(self):
        self.check("kerf 0\nboard 1 1\nblock 1 1\n", [0, 1, 1, 0])
        self.check_stock(3, [(100, 7)], [(20, 1)], [0, 7, 1, 0])

    def test_a_board_that_one_block_just_fills(self):
        for kerf in (0, 16):
            self.check_stock(kerf, [(20, 7)], [(20, 1)], [0, 7, 1, 0])
            self.check_stock(kerf, [(19, 1), (20, 7)], [(20, 1)], [0, 7, 1, 1])
        self.check_stock(16, [(4096, 1000)], [(4096, 1)], [0, 1000, 1, 0])

    def test_a_board_that_all_blocks_just_fill(self):
        self.check_stock(16, [(192, 7)], [(10, 8)], [0, 7, 1] + [0] * 8)
        self.check_stock(16, [(191, 7)], [(10, 8)], [-3])

    def test_the_cheapest_of_those_that_take_the_block(self):
        self.check_stock(3, [(20, 9), (30, 4), (19, 1), (40, 5)], [(20, 1)], [0, 4, 1, 1])

    def test_blocks_that_need_two_boards(self):
        self.check_stock(3, [(25, 7), (25, 5)], [(20, 1), (10, 1)], [0, 12, 2, 0, 1])
        self.check_stock(3, [(15, 7), (25, 5)], [(20, 1), (10, 1)], [0, 12, 2, 1, 0])
        self.check_stock(3, [(66, 5), (40, 5)], [(20, 4)], [0, 10, 2, 0, 0, 0, 1])
        self.check_stock(3, [(65, 5), (40, 5)], [(20, 4)], [-3])

    def test_a_dear_board_against_two_cheap_ones(self):
        blocks = [(20, 2)]
        # The dear one takes all and costs more, as much, or less than the two cheap ones together.
        for cost, answer in ((11, [0, 10, 2, 1, 2]), (10, [0, 10, 1, 0, 0]), (9, [0, 9, 1, 0, 0])):
            self.check_stock(3, [(43, cost), (20, 4), (20, 6)], blocks, answer)
        for cost, answer in ((11, [0, 10, 2, 0, 1]), (10, [0, 10, 1, 2, 2]), (9, [0, 9, 1, 2, 2])):
            self.check_stock(3, [(20, 4), (20, 6), (43, cost)], blocks, answer)
        self.check_stock(0, [(20, 1), (40, 1000), (20, 1)], blocks, [0, 2, 2, 0, 2])


class TheSameCost(Best):
    def test_the_fewest_boards(self):
        self.check_stock(0, [(20, 3), (20, 3), (40, 6)], [(20, 2)], [0, 6, 1, 2, 2])
        self.check_stock(0, [(10, 2), (10, 2), (10, 2), (20, 3), (20, 3)], [(10, 3)], [0, 5, 2, 0, 3, 3])
        self.check_stock(0, [(10, 1), (10, 1), (10, 1), (30, 3)], [(10, 3)], [0, 3, 1, 3, 3, 3])
        # What it costs is looked at first: three boards for less.
        self.check_stock(0, [(10, 1), (10, 1), (10, 1), (30, 4)], [(10, 3)], [0, 3, 3, 0, 1, 2])

    def test_the_first_row_with_blocks_of_the_same_length(self):
        self.check_stock(0, [(20, 1), (20, 1)], [(10, 4)], [0, 2, 2, 0, 0, 1, 1])
        self.check_stock(0, [(10, 1), (30, 1)], [(10, 4)], [0, 2, 2, 0, 1, 1, 1])
        self.check_stock(0, [(30, 1), (10, 1)], [(10, 4)], [0, 2, 2, 0, 0, 0, 1])
        self.check_stock(0, [(20, 1), (30, 1)], [(10, 4)], [0, 2, 2, 0, 0, 1, 1])

    def test_the_first_row_with_boards_that_are_alike(self):
        for count in range(1, 9):
            self.check_stock(3, [(100, 7)] * count, [(100, 1)], [0, 7, 1, 0])
            self.check_stock(3, [(100, 7)] * count, [(20, 1), (30, 1)], [0, 7, 1, 0, 0])
        self.check_stock(0, [(50, 7)] * 3, [(30, 1), (20, 1), (30, 1)], [0, 14, 2, 0, 0, 1])
        self.check_stock(0, [(50, 7)] * 3, [(30, 1), (40, 1), (20, 1), (10, 1)], [0, 14, 2, 0, 1, 0, 1])

    def test_the_first_row_with_boards_that_are_not_alike(self):
        self.check_stock(0, [(30, 5), (50, 5), (40, 5)], [(30, 1)], [0, 5, 1, 0])
        self.check_stock(0, [(20, 5), (50, 5), (40, 5)], [(30, 1)], [0, 5, 1, 1])
        self.check_stock(0, [(20, 5), (50, 5), (40, 5)], [(20, 1), (40, 1)], [0, 10, 2, 0, 1])
        self.check_stock(0, [(40, 5), (50, 5), (20, 5)], [(20, 1), (50, 1)], [0, 10, 2, 0, 1])

    def test_the_first_row_over_unlike_sets_of_boards(self):
        # Just the boards 0 and 3 or the boards 1 and 2 take all, for 5: either may have the first row.
        boards = [(10, 1), (20, 2), (30, 3), (40, 4)]
        self.check_stock(0, boards, [(10, 1), (20, 2)], [0, 5, 2, 0, 3, 3])
        self.check_stock(0, boards, [(20, 1), (10, 1), (20, 1)], [0, 5, 2, 1, 2, 2])
        self.check_stock(0, boards, [(20, 2), (10, 1)], [0, 5, 2, 1, 2, 2])

    def test_a_later_block_on_a_lesser_board_does_not_count(self):
        # [0, 1, 1] comes ahead of [1, 0, 0]: only where they first differ is looked at.
        self.check_stock(0, [(20, 5), (20, 5)], [(10, 3)], [0, 10, 2, 0, 0, 1])
        self.check_stock(0, [(20, 5), (20, 5)], [(20, 1), (10, 2)], [0, 10, 2, 0, 1, 1])
        self.check_stock(0, [(19, 5), (20, 5), (20, 5)], [(20, 1), (9, 2)], [0, 10, 2, 1, 0, 0])


class Kerfs(Best):
    def test_a_kerf_that_makes_a_plan_wrong(self):
        for kerf in range(17):
            one, two = [0, 5, 1, 0, 0], [0, 9, 2, 0, 1]
            self.check_stock(kerf, [(40 + 7, 5), (20, 4)], [(20, 2)], one if kerf <= 7 else two)
            one, two = [0, 5, 1, 0, 0, 0], [0, 9, 2, 0, 0, 1]
            self.check_stock(kerf, [(60 + 13, 5), (20, 4)], [(20, 3)], one if kerf <= 6 else two)
            self.check_stock(kerf, [(80 + 3 * 9, 5)], [(20, 4)], [0, 5, 1, 0, 0, 0, 0] if kerf <= 9 else [-3])

    def test_one_block_needs_no_kerf(self):
        self.check_stock(16, [(20, 5), (20, 4)], [(20, 2)], [0, 9, 2, 0, 1])


class EightAndEight(Best):
    def test_all_on_one_board(self):
        self.check_stock(0, [(4096, 1)] * 8, [(1, 8)], [0, 1, 1] + [0] * 8)
        self.check_stock(16, [(4096, 1000)] * 8, [(498, 8)], [0, 1000, 1] + [0] * 8)
        self.check_stock(16, [(100, 1)] * 7 + [(192, 2)], [(10, 8)], [0, 2, 1] + [7] * 8)

    def test_each_block_on_a_board_of_its_own(self):
        self.check_stock(0, [(4096, 1000)] * 8, [(4096, 8)], [0, 8000, 8, 0, 1, 2, 3, 4, 5, 6, 7])
        rising = [(length, 9 - length) for length in range(1, 9)]
        falling = [(length, 1) for length in range(8, 0, -1)]
        self.check_stock(0, rising, falling, [0, 36, 8, 7, 6, 5, 4, 3, 2, 1, 0])
        self.check_stock(16, [(51 + place, 1) for place in range(8)], [(51, 8)], [0, 8, 8, 0, 1, 2, 3, 4, 5, 6, 7])

    def test_no_right_plan_at_the_very_last(self):
        for place in range(8):
            boards = [(100, 1)] * 8
            boards[place] = (99, 1)
            self.check_stock(0, boards, [(100, 8)], [-3])
        self.check_stock(0, [(100, 1)] * 8, [(60, 7), (101, 1)], [-3])
        self.check_stock(0, [(100, 1)] * 7 + [(101, 1)], [(60, 7), (102, 1)], [-3])
        self.check_stock(0, [(100, 1)] * 7 + [(102, 1)], [(60, 7), (102, 1)], [0, 8, 8, 0, 1, 2, 3, 4, 5, 6, 7])
        self.check_stock(1, [(100, 1)] * 3 + [(9, 1)] * 5, [(50, 2), (49, 4), (10, 2)], [-3])

    def test_two_on_each_of_four(self):
        boards = [(103, 3), (50, 1), (103, 3), (49, 1), (103, 3), (49, 1), (103, 3), (49, 1)]
        self.check_stock(3, boards, [(50, 8)], [0, 12, 4, 0, 0, 2, 2, 4, 4, 6, 6])
        self.check_stock(4, boards, [(50, 8)], [-3])


class NoRightPlan(Best):
    def test_a_block_longer_than_every_board(self):
        self.check("kerf 0\nboard 1 1\nblock 2 1\n", [-3])
        self.check("kerf 0\nboard 1 1\nblock 4096 8\n", [-3])
        self.check_stock(3, [(100, 7), (90, 8)], [(20, 2), (101, 1)], [-3])
        self.check_stock(3, [(100, 7), (90, 8)], [(101, 1), (20, 2)], [-3])

    def test_blocks_that_together_do_not_go_on_the_boards(self):
        self.check_stock(0, [(39, 1)], [(20, 2)], [-3])
        self.check_stock(1, [(40, 1)], [(20, 2)], [-3])
        self.check_stock(0, [(30, 1), (30, 1)], [(20, 3)], [-3])
        self.check_stock(16, [(35, 1), (35, 1)], [(10, 4)], [-3])


class BesideEveryPlan(Best):
    def test_small_stocks_one_by_one(self):
        for kerf in (0, 2):
            for boards in itertools.product([(4, 1), (4, 2), (8, 2), (10, 3)], repeat=3):
                for lengths in ([4, 4], [2, 4, 2], [4, 3, 4], [1, 5, 2]):
                    text = stock_text(kerf, boards, [(length, 1) for length in lengths])
                    self.check(text, best_plainly(text))

    def test_many_stocks(self):
        dice = Dice(7)
        seen = {}
        for turn in range(1500):
            text = dice.stock(4, 5)
            answer = best_plainly(text)
            seen[answer[0]] = seen.get(answer[0], 0) + 1
            self.check(text, answer)
        # Without enough of both the many would say little.
        self.assertGreater(min(seen[0], seen[-3]), 150)

    def test_some_larger_stocks(self):
        dice = Dice(8)
        for boards, blocks in ((2, 8), (3, 7), (4, 6), (8, 4), (6, 5)):
            for turn in range(6):
                text = stock_text(dice.throw(0, 4), [(dice.throw(30, 60), dice.throw(1, 3)) for place in range(boards)],
                                  [(dice.throw(5, 25), 1) for place in range(blocks)])
                self.check(text, best_plainly(text))

    def test_no_plan_of_a_large_stock_is_better(self):
        dice = Dice(9)
        for turn in range(20):
            text = stock_text(dice.throw(0, 16), [(dice.throw(60, 120), dice.throw(1, 5)) for place in range(8)],
                              [(dice.throw(10, 60), 1) for place in range(8)])
            told = best(bytes_of(text))
            self.assertEqual(checked_plainly(text, told[3:]), told[:3])
            for throw in range(200):
                plan = dice.throws(8, 0, 7)
                answer = checked_plainly(text, plan)
                if answer[0] == 0:
                    self.assertLessEqual(told, answer + plan)


class RefusedTexts(Best):
    def test_as_by_judge(self):
        for text, answer in REFUSED:
            self.check(text, answer)
            self.assertEqual(judge(bytes_of(text)), answer)


class BestByItself(EachCallByItself, unittest.TestCase):
    CALL = staticmethod(best)
    ROWS = ([[bytes_of(text)] for text, answer in REFUSED]
            + [[bytes_of(stock_text(*stock))] for stock in (
                (3, [(100, 7)], [(20, 2)]), (0, [(1, 1)], [(2, 1)]), (16, [(4096, 1000)] * 8, [(498, 8)]),
                (0, [(4096, 1000)] * 8, [(4096, 8)]), (0, [(99, 1)] + [(100, 1)] * 7, [(100, 8)]))])


if __name__ == "__main__":
    unittest.main()
