"""read_stock: what a right text says, board by board and block by block."""

import unittest

from sawnstock.stock import read_stock


class ReadStock(unittest.TestCase):
    def test_a_right_text(self):
        stock = read_stock(list(b"kerf 3\nboard 100 7\nboard 90 8\nblock 20 2\nblock 4 1\nblock 20 1\n"))
        self.assertEqual(stock.refusal, [])
        self.assertEqual(stock.kerf, 3)
        self.assertEqual(stock.boards, [(100, 7), (90, 8)])
        self.assertEqual(stock.blocks, [20, 20, 4, 20])

    def test_kerf_0(self):
        self.assertEqual(read_stock(list(b"kerf 0\nboard 1 1\nblock 1 1\n")).kerf, 0)

    def test_a_refused_text(self):
        self.assertEqual(read_stock(list(b"kerf 3\nboard 100\n")).refusal, [-6, 1, 1])
        self.assertEqual(read_stock([10] * 4097).refusal, [-2])


if __name__ == "__main__":
    unittest.main()
