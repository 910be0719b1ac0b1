"""sizes: the kerf, how many boards and how many blocks a stock has."""

import itertools
import unittest

from sawnstock.stock import judge, sizes
from tests.helper import BLOCK, BOARD, EachCallByItself, KERF, REFUSED, STOCK, bytes_of, stock_text

COUNTS = ("1", "2", "8", "11", "44", "17", "71", "125", "2222", "11111111", "1111112")


class Sizes(unittest.TestCase):
    def check(self, text, answer):
        with self.subTest(text=text[:80]):
            self.assertEqual(sizes(bytes_of(text)), answer)

    def test_few_and_many(self):
        self.check("kerf 0\nboard 1 1\nblock 1 1\n", [0, 0, 1, 1])
        self.check(STOCK, [0, 3, 1, 2])
        self.check(stock_text(4, [(2400, 18), (3000, 25), (600, 5)], [(700, 3), (250, 1), (1200, 2)]), [0, 4, 3, 6])
        self.check("kerf 16\n" + "board 4096 1000\n" * 8 + "block 4096 8\n", [0, 16, 8, 8])
        self.check("kerf 16\n" + "board 4096 1000\n" * 8 + "block 4096 1\n" * 8, [0, 16, 8, 8])

    def test_every_kerf(self):
        for kerf in range(17):
            self.check(f"kerf {kerf}\n" + BOARD + BLOCK, [0, kerf, 1, 2])

    def test_every_count_of_boards_and_blocks(self):
        for boards, blocks in itertools.product(range(1, 9), range(1, 9)):
            self.check(KERF + BOARD * boards + f"block 20 {blocks}\n", [0, 3, boards, blocks])
            self.check(KERF + BOARD * boards + "block 20 1\n" * blocks, [0, 3, boards, blocks])

    def test_each_of_a_line_s_blocks_is_counted(self):
        for counts in COUNTS:
            blocks = "".join(f"block {20 + int(n)} {n}\n" for n in counts)
            self.check(KERF + BOARD * 2 + blocks, [0, 3, 2, sum(map(int, counts))])

    def test_a_stock_without_a_right_plan(self):
        self.check("kerf 0\nboard 1 1\nblock 4096 8\n", [0, 0, 1, 8])

    def test_refused_as_by_judge(self):
        for text, answer in REFUSED:
            self.check(text, answer)
            self.assertEqual(judge(bytes_of(text)), answer)


class SizesByItself(EachCallByItself, unittest.TestCase):
    CALL = staticmethod(sizes)
    ROWS = ([[bytes_of(text)] for text, answer in REFUSED]
            + [[bytes_of(text)] for text in (STOCK, KERF + BOARD * 8 + BLOCK * 4, "kerf 0\nboard 1 1\nblock 1 1\n")])


if __name__ == "__main__":
    unittest.main()
