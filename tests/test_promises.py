"""The promises over the whole program, over many texts, stocks and plans."""

import itertools
import unittest

from sawnstock.stock import best, check, fits, judge, left, sizes
from tests.helper import (
    BLOCK, BOARD, Dice, FAR, KERF, REFUSED, SMALL_STOCKS, STOCK, best_plainly, bytes_of, judged_plainly,
    read_plainly, stock_text,
)


def six_answers(text, b, numbers):
    """What each of the six calls answers of the text."""
    signs = bytes_of(text)
    return [judge(signs), sizes(signs), check(signs, numbers), best(signs), left(b, signs, numbers),
            fits(b, signs, numbers)]


def part_of(dice, blocks):
    return [block for block in blocks if dice.throw(0, 1) == 0]


class OneStockOrOneFault(unittest.TestCase):
    """Promise 1: -2 and -6 are the same of all six calls, and none of them else has either."""

    def check_text(self, text):
        answer = judged_plainly(text)
        for b, numbers in ((0, []), (0, [0]), (0, [0, 1]), (FAR, [FAR]), (8, [0] * 100)):
            told = six_answers(text, b, numbers)
            if answer != [0]:
                self.assertEqual(told, [answer] * 6, repr(text[:200]))
            else:
                self.assertEqual(told[0], [0], repr(text[:200]))
                self.assertFalse([row for row in told if row[0] in (-2, -6)], repr(text[:200]))

    def test_refused_texts(self):
        for text, answer in REFUSED:
            self.assertEqual(judged_plainly(text), answer)
            self.check_text(text)

    def test_every_row_of_lines(self):
        lines = (KERF, BOARD, BLOCK, "block 4096 8\n", "x\n", "kerf 3")
        for count in range(5):
            for row in itertools.product(lines, repeat=count):
                self.check_text("".join(row))

    def test_texts_with_a_byte_changed(self):
        for place in range(len(STOCK) + 1):
            self.check_text(STOCK[:place])
            self.check_text(STOCK[place:])
            self.check_text(STOCK[:place] + STOCK[place + 1:])
            for sign in "\0\n\r\t 0123456789abklory\x7f\x80\xff":
                self.check_text(STOCK[:place] + sign + STOCK[place:])
                self.check_text(STOCK[:place] + sign + STOCK[place + 1:])

    def test_lengths_around_the_greatest(self):
        for length in (4095, 4096, 4097, 5000):
            for text in (STOCK * 500, "\n" * 5000, "9" * 5000, STOCK + "x" * 5000, KERF + BOARD * 1000):
                self.check_text(text[:length])

    def test_many_stocks_and_what_is_left_of_them(self):
        dice = Dice(1)
        for turn in range(300):
            text = dice.stock()
            self.check_text(text)
            self.check_text(text[:dice.throw(0, len(text))])
            self.check_text(text + dice.stock())


class NoPlanIsBetterThanTheBest(unittest.TestCase):
    """Promise 2, by check's own answers of every plan."""

    def test_many_stocks(self):
        dice = Dice(2)
        for turn in range(500):
            text = dice.stock(4, 4)
            signs = bytes_of(text)
            kerf, boards, blocks = read_plainly(text)
            told = best(signs)
            self.assertEqual(told, best_plainly(text), text)
            rights = []
            for plan in itertools.product(range(len(boards)), repeat=len(blocks)):
                answer = check(signs, list(plan))
                if answer[0] == 0:
                    rights.append(answer + list(plan))
            self.assertEqual(told == [-3], rights == [], text)
            for right in rights:
                self.assertLessEqual(told, right, text)


class PartFitsAndWiderKerfs(unittest.TestCase):
    """Promise 3."""

    def test_every_part_of_every_set(self):
        dice = Dice(3)
        for turn in range(60):
            text = dice.stock(3, 5)
            signs = bytes_of(text)
            kerf, boards, lengths = read_plainly(text)
            sets = [list(blocks) for count in range(len(lengths) + 1)
                    for blocks in itertools.combinations(range(len(lengths)), count)]
            for b in range(len(boards)):
                fitting = [blocks for blocks in sets if fits(b, signs, blocks) == [1]]
                self.assertIn([], fitting)
                for blocks in fitting:
                    for left_out in blocks:
                        self.assertIn([block for block in blocks if block != left_out], fitting, text)

    def test_part_of_what_fits_over_many_stocks(self):
        dice = Dice(31)
        seen = 0
        for turn in range(1500):
            text = dice.stock()
            signs = bytes_of(text)
            kerf, boards, lengths = read_plainly(text)
            blocks = part_of(dice, range(len(lengths)))
            for b in range(len(boards)):
                if fits(b, signs, blocks) == [1] and blocks != []:
                    seen += 1
                    self.assertEqual(fits(b, signs, part_of(dice, blocks)), [1], text)
        self.assertGreater(seen, 500)

    def test_a_wider_kerf(self):
        dice = Dice(32)
        falls = 0
        for turn in range(300):
            kerf, boards, lengths = read_plainly(dice.stock())
            blocks = part_of(dice, range(len(lengths)))
            for b in range(len(boards)):
                row = []
                for kerf in range(17):
                    text = stock_text(kerf, boards, [(length, 1) for length in lengths])
                    row += fits(b, bytes_of(text), blocks)
                self.assertEqual(row, sorted(row, reverse=True), (boards, lengths, b, blocks))
                falls += row[0] > row[-1]
        self.assertGreater(falls, 100)


class CheckFitsAndLeftAgree(unittest.TestCase):
    """Promise 4."""

    def agree(self, text, plan):
        signs = bytes_of(text)
        kerf, boards, lengths = read_plainly(text)
        checked = check(signs, plan)
        sets = [[block for block in range(len(lengths)) if plan[block] == b] for b in range(len(boards))]
        overfull = [b for b in range(len(boards)) if fits(b, signs, sets[b]) != [1]]
        rests = [left(b, signs, plan) for b in range(len(boards))]
        if overfull == []:
            self.assertEqual(checked[0], 0, (text, plan))
            for b, rest in enumerate(rests):
                self.assertEqual(rest, [max(0, boards[b][0] - sum(lengths[block] + kerf for block in sets[b]))])
        else:
            self.assertEqual(checked[:2], [-8, overfull[0]], (text, plan))
            self.assertEqual(rests, [[-8]] * len(boards), (text, plan))
        self.assertEqual(left(len(boards), signs, plan), [-4])
        self.assertEqual(fits(len(boards), signs, sets[0]), [-4])
        return checked[0]

    def test_every_plan_of_some_stocks(self):
        for text in SMALL_STOCKS:
            for plan in itertools.product(range(3), repeat=4):
                self.agree(text, list(plan))

    def test_many_stocks_and_plans(self):
        dice = Dice(4)
        seen = {}
        for turn in range(1500):
            text = dice.stock()
            kerf, boards, lengths = read_plainly(text)
            number = self.agree(text, dice.throws(len(lengths), 0, len(boards) - 1))
            seen[number] = seen.get(number, 0) + 1
        self.assertGreater(min(seen[0], seen[-8]), 300)

    def test_the_best_plan_of_many_stocks(self):
        dice = Dice(41)
        for turn in range(300):
            text = dice.stock()
            told = best(bytes_of(text))
            if told[0] == 0:
                self.assertEqual(self.agree(text, told[3:]), 0)

    def test_what_is_no_plan(self):
        dice = Dice(42)
        for turn in range(500):
            text = dice.stock()
            signs = bytes_of(text)
            kerf, boards, lengths = read_plainly(text)
            plan = dice.throws(len(lengths), 0, len(boards) - 1)
            wrong = list(plan)
            wrong[dice.throw(0, len(plan) - 1)] = dice.throw(len(boards), FAR)
            for numbers in (wrong, plan[:-1], plan + [0], []):
                self.assertEqual(check(signs, numbers), [-1])
                for b in (0, len(boards), FAR):
                    self.assertEqual(left(b, signs, numbers), [-1])


if __name__ == "__main__":
    unittest.main()
