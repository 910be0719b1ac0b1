"""What the tests of the several calls share."""

import contextlib
import io
import itertools
import re

KERF = "kerf 3\n"
BOARD = "board 100 7\n"
BLOCK = "block 20 2\n"
STOCK = KERF + BOARD + BLOCK

# The greatest number that b and a list may hold.
FAR = 4294967295

# Texts that every call refuses, and the answer of every call: each reason, at the first line, between and at the end.
REFUSED = (
    ("\n" * 4097, [-2]),
    ("9" * 5000, [-2]),
    (STOCK + "x" * (4097 - len(STOCK)), [-2]),
    (STOCK + "x" * (4096 - len(STOCK)), [-6, 3, 1]),
    ("\n" * 4096, [-6, 0, 1]),
    ("kerf 17\n" + BOARD + BLOCK, [-6, 0, 1]),
    (KERF + "board 4097 7\n" + BLOCK, [-6, 1, 1]),
    (KERF + BOARD + "block 20 9\n", [-6, 2, 1]),
    (STOCK[:-1], [-6, 2, 1]),
    (STOCK + "\n", [-6, 3, 1]),
    ("", [-6, 0, 3]),
    (BOARD + BLOCK, [-6, 0, 3]),
    (KERF + KERF + BOARD + BLOCK, [-6, 1, 3]),
    (KERF + BOARD, [-6, 2, 3]),
    (STOCK + BOARD, [-6, 3, 3]),
    (KERF + BOARD * 9 + BLOCK, [-6, 9, 2]),
    (KERF + BOARD + BLOCK * 5, [-6, 6, 2]),
)


def bytes_of(text):
    return list(text.encode("latin-1"))


def stock_text(kerf, boards, blocks):
    """A stock text: boards are pairs (length, cost), blocks pairs (length, how many)."""
    return (f"kerf {kerf}\n" + "".join(f"board {length} {cost}\n" for length, cost in boards)
            + "".join(f"block {length} {n}\n" for length, n in blocks))


# Three boards and four blocks each: few enough to look at every plan.
SMALL_STOCKS = (
    stock_text(0, [(30, 5), (20, 4), (30, 5)], [(10, 2), (20, 2)]),
    stock_text(3, [(23, 1), (22, 2), (46, 4)], [(10, 3), (20, 1)]),
    stock_text(16, [(26, 1), (42, 2), (1, 4)], [(5, 1), (10, 3)]),
)


def judged_plainly(text):
    """What judge answers of any text, by the document's words once more and other means than the program's."""
    if len(text) > 4096:
        return [-2]
    number = "(0|[1-9][0-9]*)"
    forms = {
        "kerf": (re.compile(f"kerf {number}\n"), [(0, 16)]),
        "board": (re.compile(f"board {number} {number}\n"), [(1, 4096), (1, 1000)]),
        "block": (re.compile(f"block {number} {number}\n"), [(1, 4096), (1, 8)]),
    }
    seen = ""
    blocks = 0
    lines = re.findall("[^\n]*\n|[^\n]+", text)
    for place, line in enumerate(lines):
        letter = ""
        for word, (form, bounds) in forms.items():
            match = form.fullmatch(line)
            if match and all(low <= int(group) <= high for group, (low, high) in zip(match.groups(), bounds)):
                letter = {"kerf": "k", "board": "p", "block": "b"}[word]
                numbers = [int(group) for group in match.groups()]
        if letter == "":
            return [-6, place, 1]
        seen += letter
        if not re.fullmatch("k(p+b*)?", seen):
            return [-6, place, 3]
        if letter == "b":
            blocks += numbers[1]
        if seen.count("p") > 8 or blocks > 8:
            return [-6, place, 2]
    return [0] if blocks else [-6, len(lines), 3]


def read_plainly(text):
    """The kerf, the boards (length, cost) and the blocks' lengths of a right text."""
    rows = [line.split(" ") for line in text.splitlines()]
    boards = [(int(row[1]), int(row[2])) for row in rows if row[0] == "board"]
    blocks = [int(row[1]) for row in rows if row[0] == "block" for n in range(int(row[2]))]
    return int(rows[0][1]), boards, blocks


def checked_plainly(text, plan):
    """What check answers of a right text and any list, by the document's words once more."""
    kerf, boards, blocks = read_plainly(text)
    if len(plan) != len(blocks) or not set(plan) <= set(range(len(boards))):
        return [-1]
    ends = {}
    for length, board in zip(blocks, plan):
        # Where the block ends: the first at its length, another a kerf behind the one ahead of it.
        ends[board] = ends[board] + kerf + length if board in ends else length
    for board in sorted(ends):
        if ends[board] > boards[board][0]:
            return [-8, board, ends[board] - boards[board][0]]
    return [0, sum(boards[board][1] for board in ends), len(ends)]


def best_plainly(text):
    """What best answers of a right text, by a look at every plan there is."""
    kerf, boards, blocks = read_plainly(text)
    answers = []
    for plan in itertools.product(range(len(boards)), repeat=len(blocks)):
        answer = checked_plainly(text, plan)
        if answer[0] == 0:
            answers.append(answer + list(plan))
    return min(answers, default=[-3])


def left_plainly(b, text, plan):
    """What left answers of a right text, by the document's words once more."""
    kerf, boards, blocks = read_plainly(text)
    answer = checked_plainly(text, plan)
    if answer[0] == -1:
        return [-1]
    if b not in range(len(boards)):
        return [-4]
    if answer[0] == -8:
        return [-8]
    rest = boards[b][0]
    for length, board in zip(blocks, plan):
        if board == b:
            rest -= length + kerf
    return [rest if rest > 0 else 0]


def fits_plainly(b, text, blocks):
    """What fits answers of a right text, by the document's words once more."""
    kerf, boards, lengths = read_plainly(text)
    if list(blocks) != sorted(set(blocks)) or not set(blocks) <= set(range(len(lengths))):
        return [-1]
    if b not in range(len(boards)):
        return [-4]
    # The saw's last cut may run off the end: as if the board were a kerf longer.
    return [int(sum(lengths[block] + kerf for block in blocks) <= boards[b][0] + kerf)]


class Dice:
    """Whole numbers that look thrown and are the same at every run."""

    def __init__(self, seed):
        self.state = seed

    def throw(self, low, high):
        self.state = (self.state * 6364136223846793005 + 1442695040888963407) % 2 ** 64
        return low + (self.state >> 33) % (high - low + 1)

    def throws(self, count, low, high):
        return [self.throw(low, high) for place in range(count)]

    def stock(self, most_boards=8, most_blocks=8):
        """A stock text whose blocks go on its boards about as often as not."""
        kerf = self.throw(0, 1) * self.throw(0, 16)
        boards = [(self.throw(10, 60), self.throw(1, 6)) for place in range(self.throw(1, most_boards))]
        count = self.throw(1, most_blocks)
        blocks = []
        while count > 0:
            n = self.throw(1, min(count, 3))
            blocks.append((self.throw(1, 40), n))
            count -= n
        return stock_text(kerf, boards, blocks)


class ReadOnly(list):
    """A list that fails when it is changed, even for a while."""

    def refuse(self, *args, **kwargs):
        raise RuntimeError("what was handed in was changed")

    append = clear = extend = insert = pop = remove = reverse = sort = refuse
    __setitem__ = __delitem__ = __iadd__ = __imul__ = refuse


class EachCallByItself:
    """What holds of every call, whatever it answers: CALL is asked with each of ROWS, one call's arguments."""

    CALL = None
    ROWS = ()

    def handed(self, row, kind=list):
        """The row anew: lists that no other call has been handed."""
        return [kind(value) if isinstance(value, list) else value for value in row]

    def answers(self, rows):
        return [self.CALL(*self.handed(row)) for row in rows]

    def test_what_was_handed_in_is_as_it_was(self):
        for row in self.ROWS:
            handed = self.handed(row)
            answer = self.CALL(*handed)
            self.assertEqual(handed, self.handed(row))
            self.assertFalse(any(value is answer for value in handed))
            self.assertEqual(self.CALL(*self.handed(row, ReadOnly)), answer)

    def test_a_second_call_answers_as_the_first(self):
        first = self.answers(self.ROWS)
        self.assertEqual(self.answers(self.ROWS), first)
        self.assertEqual(self.answers(self.ROWS[::-1]), first[::-1])
        for row, answer in zip(self.ROWS, first):
            handed = self.handed(row)
            self.assertEqual([self.CALL(*handed), self.CALL(*handed)], [answer, answer])

    def test_an_answer_that_is_changed_changes_no_other(self):
        for row in self.ROWS:
            answer = self.CALL(*self.handed(row))
            kept = list(answer)
            answer.append(77)
            answer[0] = 78
            self.assertEqual(self.CALL(*self.handed(row)), kept)

    def test_an_answer_is_a_list_of_whole_numbers(self):
        for answer in self.answers(self.ROWS):
            self.assertIs(type(answer), list)
            self.assertEqual({type(number) for number in answer}, {int})

    def test_nothing_is_printed(self):
        printed = io.StringIO()
        with contextlib.redirect_stdout(printed), contextlib.redirect_stderr(printed):
            self.answers(self.ROWS)
        self.assertEqual(printed.getvalue(), "")
