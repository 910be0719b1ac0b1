"""judge: a text is one stock, or has one fault (promise 1)."""

import itertools
import unittest

from sawnstock.stock import judge
from tests.helper import BLOCK, BOARD, EachCallByItself, KERF, REFUSED, STOCK, bytes_of, judged_plainly


def judged(text):
    return judge(bytes_of(text))


class Judging(unittest.TestCase):
    def check_all(self, texts, answer):
        for text in texts:
            with self.subTest(text=text[:80], length=len(text)):
                self.assertEqual(judged(text), answer)

    def check_lines(self, kerfs=(), boards=(), blocks=(), why=1):
        """Each line in the place of its kind in an else right stock, and last in the text too."""
        for place, lines in enumerate((kerfs, boards, blocks)):
            ahead = (KERF + BOARD + BLOCK).splitlines(keepends=True)[:place]
            behind = (KERF + BOARD + BLOCK).splitlines(keepends=True)[place + 1:]
            for line in lines:
                self.check_all(["".join(ahead) + line + "\n" + "".join(behind)], [-6, place, why])
                self.check_all(["".join(ahead) + line + "\n"], [-6, place, why])


class RightStocks(Judging):
    def test_few_and_many(self):
        self.check_all([
            STOCK,
            KERF + BOARD * 2 + BLOCK,
            KERF + BOARD + BLOCK * 2,
            "kerf 4\nboard 2400 18\nboard 3000 25\nboard 600 5\nblock 700 3\nblock 250 1\nblock 1200 2\n",
            "kerf 16\n" + "board 4096 1000\n" * 8 + "block 4096 1\n" * 8,
        ], [0])

    def test_least_and_greatest_of_every_bound(self):
        self.check_all(["kerf " + k + "\n" + BOARD + BLOCK for k in ("0", "1", "9", "10", "15", "16")], [0])
        self.check_all([KERF + "board " + l + " 7\n" + BLOCK for l in ("1", "10", "1000", "4095", "4096")], [0])
        self.check_all([KERF + "board 100 " + c + "\n" + BLOCK for c in ("1", "10", "999", "1000")], [0])
        self.check_all([KERF + BOARD + "block " + l + " 2\n" for l in ("1", "10", "1000", "4095", "4096")], [0])
        self.check_all([KERF + BOARD + "block 20 " + n + "\n" for n in "12345678"], [0])
        self.check_all(["kerf 0\nboard 1 1\nblock 1 1\n", "kerf 16\nboard 4096 1000\nblock 4096 8\n"], [0])

    def test_every_count_of_boards(self):
        self.check_all([KERF + BOARD * boards + BLOCK for boards in range(1, 9)], [0])

    def test_blocks_by_one_line_and_by_several(self):
        for counts in ("1", "8", "11", "44", "17", "71", "125", "2222", "11111111", "1111112"):
            blocks = "".join(f"block 20 {n}\n" for n in counts)
            self.check_all([KERF + BOARD + blocks], [0])

    def test_a_stock_without_a_right_plan_is_a_stock(self):
        self.check_all(["kerf 0\nboard 1 1\nblock 4096 8\n"], [0])


class TooLong(Judging):
    def test_4096_bytes_are_read(self):
        self.check_all(["\n" * 4096, "9" * 4096, "kerf " + "1" * 4090 + "\n"], [-6, 0, 1])
        self.check_all([STOCK + "x" * (4096 - len(STOCK)), STOCK + "\n" * (4096 - len(STOCK))], [-6, 3, 1])
        self.check_all([(KERF * 1000)[:4095] + "\n"], [-6, 1, 3])

    def test_more_are_not(self):
        for length in (4097, 5000):
            self.check_all([
                "\n" * length,
                "9" * length,
                "kerf " + "1" * (length - 6) + "\n",
                STOCK + "x" * (length - len(STOCK)),
                (STOCK * 1000)[:length],
            ], [-2])


class NotFormed(Judging):
    def test_just_outside_each_bound(self):
        self.check_lines(
            kerfs=["kerf 17", "kerf -1"],
            boards=["board 0 7", "board 4097 7", "board 100 0", "board 100 1001"],
            blocks=["block 0 2", "block 4097 2", "block 20 0", "block 20 9"],
        )

    def test_far_outside(self):
        self.check_lines(
            kerfs=["kerf 20", "kerf 100", "kerf 4294967296", "kerf 18446744073709551616"],
            boards=["board 10000 7", "board 4294967396 7", "board 100 10000", "board 100 4294967303"],
            blocks=["block 10000 2", "block 4294967316 2", "block 20 10", "block 20 4294967298"],
        )

    def test_very_many_digits(self):
        for digits in ("1" * 4000, "0" * 4000, "0" * 3999 + "1", "9" * 999):
            self.check_lines(
                kerfs=["kerf " + digits],
                boards=["board " + digits + " 7", "board 100 " + digits],
                blocks=["block " + digits + " 2", "block 20 " + digits],
            )

    def test_0_first(self):
        self.check_lines(
            kerfs=["kerf 00", "kerf 03", "kerf 003"],
            boards=["board 0100 7", "board 100 07", "board 00 7", "board 100 00"],
            blocks=["block 020 2", "block 20 02", "block 00 2", "block 20 00"],
        )

    def test_numbers_too_few_or_too_many(self):
        self.check_lines(
            kerfs=["kerf", "kerf ", "kerf 3 3", "kerf 3 3 3"],
            boards=["board", "board ", "board 100", "board 100 ", "board  7", "board 100 7 7"],
            blocks=["block", "block ", "block 20", "block 20 ", "block  2", "block 20 2 2"],
        )

    def test_what_is_not_a_digit(self):
        for sign in "x-+._,/:'\"\t\r\0\xb2\xff":
            self.check_lines(
                kerfs=["kerf " + sign, "kerf 1" + sign, "kerf " + sign + "1", "kerf 1" + sign + "1"],
                boards=[f"board {sign} 7", f"board 1{sign} 7", f"board {sign}1 7",
                        f"board 1 {sign}", f"board 1 7{sign}"],
                blocks=[f"block {sign} 2", f"block 2{sign} 2", f"block {sign}2 2",
                        f"block 2 {sign}", f"block 2 2{sign}"],
            )

    def test_blanks(self):
        self.check_lines(
            kerfs=["kerf3", "kerf  3", " kerf 3", "kerf 3 ", "ke rf 3", "kerf 1 0", " ", "  "],
            boards=["board100 7", "board 1007", "board1007", "board  100 7", "board 100  7", " board 100 7",
                    "board 100 7 ", "bo ard 100 7", " ", "  "],
            blocks=["block20 2", "block 202", "block202", "block  20 2", "block 20  2", " block 20 2",
                    "block 20 2 ", "bl ock 20 2", " ", "  "],
        )

    def test_words(self):
        self.check_lines(
            kerfs=["ker 3", "k 3", "kerfs 3", "Kerf 3", "KERF 3", "erf 3", "saw 3", "3", "3 kerf", " 3"],
            boards=["boar 100 7", "b 100 7", "boards 100 7", "Board 100 7", "oard 100 7", "plank 100 7", "100 7",
                    "kerf 100 7", " 100 7"],
            blocks=["bloc 20 2", "b 20 2", "blocks 20 2", "Block 20 2", "lock 20 2", "brick 20 2", "20 2",
                    "kerf 20 2", " 20 2"],
        )

    def test_an_empty_line(self):
        self.check_lines(kerfs=[""], boards=[""], blocks=[""])
        self.check_all(["\n" + STOCK, "\n"], [-6, 0, 1])
        self.check_all([KERF + "\n" + BOARD + BLOCK, KERF + "\n"], [-6, 1, 1])
        self.check_all([KERF + BOARD + "\n" + BLOCK], [-6, 2, 1])
        self.check_all([STOCK + "\n", STOCK + "\n\n"], [-6, 3, 1])

    def test_other_bytes(self):
        for sign in "\t\r\0\x0b\x0c\x1c\x85\xa0\xff":
            self.check_lines(
                kerfs=[sign, "kerf" + sign + "3", sign + "kerf 3", "kerf 3" + sign],
                boards=[sign, f"board{sign}100 7", f"board 100{sign}7", sign + "board 100 7", "board 100 7" + sign],
                blocks=[sign, f"block{sign}20 2", f"block 20{sign}2", sign + "block 20 2", "block 20 2" + sign],
            )
            self.check_all([STOCK.replace("\n", sign)], [-6, 0, 1])

    def test_a_last_line_without_its_line_feed(self):
        self.check_all(["kerf 3", "kerf", "k", " ", "board 100 7", "\xff"], [-6, 0, 1])
        self.check_all([KERF + "board 100 7", KERF + "b", KERF + "kerf 3", KERF + "block 20 2"], [-6, 1, 1])
        self.check_all([KERF + BOARD + "block 20 2", KERF + BOARD + "board 1 1", KERF + BOARD + " "], [-6, 2, 1])
        self.check_all([STOCK + "block 20 2", STOCK + "board 1 1", STOCK + "kerf 3", STOCK + "x"], [-6, 3, 1])


class CannotStand(Judging):
    def test_no_byte_at_all(self):
        self.assertEqual(judge([]), [-6, 0, 3])

    def test_the_first_line_is_not_the_kerf(self):
        self.check_all([BOARD, BLOCK, BOARD + KERF + BLOCK, BLOCK + KERF + BOARD, BOARD + BLOCK], [-6, 0, 3])

    def test_a_second_kerf(self):
        self.check_all([KERF + KERF, KERF + KERF + BOARD + BLOCK, KERF + "kerf 0\n" + BOARD + BLOCK], [-6, 1, 3])
        self.check_all(["kerf 0\nkerf 0\n" + BOARD + BLOCK], [-6, 1, 3])
        self.check_all([KERF + BOARD + KERF + BLOCK, KERF + BOARD + KERF], [-6, 2, 3])
        self.check_all([STOCK + KERF, KERF + BOARD * 2 + KERF + BLOCK, STOCK + KERF + BLOCK], [-6, 3, 3])
        self.check_all([STOCK + BLOCK + KERF], [-6, 4, 3])

    def test_a_block_ahead_of_any_board(self):
        self.check_all([KERF + BLOCK, KERF + BLOCK + BOARD, KERF + BLOCK + BOARD + BLOCK], [-6, 1, 3])

    def test_a_board_behind_a_block(self):
        self.check_all([STOCK + BOARD, STOCK + BOARD + BLOCK], [-6, 3, 3])
        self.check_all([STOCK + BLOCK + BOARD, KERF + BOARD * 2 + BLOCK + BOARD], [-6, 4, 3])

    def test_the_end_ahead_of_a_block(self):
        self.check_all([KERF, "kerf 0\n"], [-6, 1, 3])
        for boards in range(1, 9):
            self.check_all([KERF + BOARD * boards], [-6, 1 + boards, 3])


class TooMuch(Judging):
    def test_the_9th_board(self):
        self.check_all([KERF + BOARD * 9, KERF + BOARD * 9 + BLOCK, KERF + BOARD * 20 + BLOCK], [-6, 9, 2])

    def test_blocks_that_are_more_than_8_together(self):
        for counts, place in (("81", 3), ("88", 3), ("18", 3), ("72", 3), ("54", 3), ("441", 4), ("1118", 5),
                              ("22221", 6), ("111111111", 10), ("11111118", 9), ("6381", 3)):
            blocks = "".join(f"block 20 {n}\n" for n in counts)
            self.check_all([KERF + BOARD + blocks], [-6, place, 2])
            self.check_all([KERF + BOARD * 8 + blocks], [-6, place + 7, 2])


class SeveralReasons(Judging):
    def test_not_formed_is_told_ahead_of_the_others(self):
        self.check_all(["board 0 7\n", "block 20 9\n", "board 100 7", "block 20 2"], [-6, 0, 1])
        self.check_all([KERF + "kerf 17\n", KERF + "block 20 9\n", KERF + "kerf 3"], [-6, 1, 1])
        self.check_all([STOCK + "board 4097 7\n", STOCK + "kerf 03\n", STOCK + "board 100 7"], [-6, 3, 1])
        self.check_all([KERF + BOARD * 8 + "board 0 7\n", KERF + BOARD * 8 + "board 100 7"], [-6, 9, 1])
        self.check_all([KERF + BOARD + "block 20 9\n"], [-6, 2, 1])
        self.check_all([KERF + BOARD + "block 20 8\n" + line for line in
                        ("block 20 9\n", "block 0 1\n", "block 20 1")], [-6, 3, 1])

    def test_cannot_stand_is_told_ahead_of_too_much(self):
        self.check_all([KERF + BOARD * 8 + BLOCK + BOARD], [-6, 10, 3])
        self.check_all([KERF + BOARD * 8 + BLOCK * 4 + KERF], [-6, 13, 3])

    def test_the_first_wrong_line_is_told(self):
        self.check_all(["kerf 17\nkerf 17\n", "kerf 17\n" + BLOCK, "x\ny\nz"], [-6, 0, 1])
        self.check_all([BLOCK + "x\n", BOARD + KERF + KERF, BLOCK * 9], [-6, 0, 3])
        self.check_all([KERF + KERF + "x\n", KERF + BLOCK * 9, KERF + BLOCK + "x"], [-6, 1, 3])
        self.check_all([KERF + "x\n" + KERF, KERF + "board 100\n" + BOARD * 9], [-6, 1, 1])
        self.check_all([KERF + BOARD * 9 + "x\n", KERF + BOARD * 9 + KERF, KERF + BOARD * 9 + "x"], [-6, 9, 2])
        self.check_all([KERF + BOARD + BLOCK * 5 + BOARD, KERF + BOARD + BLOCK * 5 + "x\n"], [-6, 6, 2])


class Refused(Judging):
    def test_the_texts_that_every_call_refuses(self):
        for text, answer in REFUSED:
            self.check_all([text], answer)


class OneStockOrOneFault(Judging):
    """Promise 1 over many texts, each beside a second reading of the document."""

    def check_text(self, text):
        if judged(text) != judged_plainly(text):
            self.fail(f"{text!r}: {judged(text)}, not {judged_plainly(text)}")

    def test_every_row_of_lines(self):
        lines = (KERF, BOARD, BLOCK, "block 4096 8\n", "x\n", "kerf 3")
        for count in range(6):
            for row in itertools.product(lines, repeat=count):
                self.check_text("".join(row))

    def test_long_rows_of_boards_and_blocks(self):
        for boards, blocks, n in itertools.product(range(11), range(11), range(10)):
            self.check_text(KERF + BOARD * boards + f"block 20 {n}\n" * blocks)

    def test_every_change_of_one_byte(self):
        for text in (STOCK, "kerf 0\nboard 4096 1000\nblock 1 8\n"):
            for place in range(len(text) + 1):
                self.check_text(text[:place])
                self.check_text(text[place:])
                self.check_text(text[:place] + text[place + 1:])
                for sign in map(chr, range(256)):
                    self.check_text(text[:place] + sign + text[place:])
                    self.check_text(text[:place] + sign + text[place + 1:])

    def test_every_number_near_and_far(self):
        for number in list(range(1100)) + list(range(4000, 4200)) + [9999, 10000, 40960, 65536, 65537]:
            self.check_text(f"kerf {number}\n" + BOARD + BLOCK)
            for numbers in (f"{number} 7", f"100 {number}"):
                self.check_text(KERF + f"board {numbers}\n" + BLOCK)
                self.check_text(KERF + BOARD + f"block {numbers}\n")


class JudgeByItself(EachCallByItself, unittest.TestCase):
    CALL = staticmethod(judge)
    ROWS = [[bytes_of(text)] for text in
            ("", STOCK, KERF + BOARD, "x\n", KERF + BOARD * 9, STOCK + "x", "9" * 4097, STOCK * 200)]


if __name__ == "__main__":
    unittest.main()
