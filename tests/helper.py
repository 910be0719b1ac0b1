"""What the tests of the several calls share."""

import contextlib
import io

KERF = "kerf 3\n"
BOARD = "board 100 7\n"
BLOCK = "block 20 2\n"
STOCK = KERF + BOARD + BLOCK

# Texts that every call refuses, and the answer of every call: each reason, at the first line, between and at the end.
REFUSED = (
    ("\n" * 4097, [-2]),
    ("9" * 5000, [-2]),
    (STOCK + "x" * (4097 - len(STOCK)), [-2]),
    (STOCK + "x" * (4096 - len(STOCK)), [-6, 3, 1]),
    ("\n" * 4096, [-6, 0, 1]),
    ("kerf 17\n" + BOARD + BLOCK, [-6, 0, 1]),
    (KERF + "board 4097 7\n" + BLOCK, [-6, 1, 1]),
    (KERF + BOARD + "block 20 9\n", [-6, 2, 1]),
    (STOCK[:-1], [-6, 2, 1]),
    (STOCK + "\n", [-6, 3, 1]),
    ("", [-6, 0, 3]),
    (BOARD + BLOCK, [-6, 0, 3]),
    (KERF + KERF + BOARD + BLOCK, [-6, 1, 3]),
    (KERF + BOARD, [-6, 2, 3]),
    (STOCK + BOARD, [-6, 3, 3]),
    (KERF + BOARD * 9 + BLOCK, [-6, 9, 2]),
    (KERF + BOARD + BLOCK * 5, [-6, 6, 2]),
)


def bytes_of(text):
    return list(text.encode("latin-1"))


def stock_text(kerf, boards, blocks):
    """A stock text: boards are pairs (length, cost), blocks pairs (length, how many)."""
    return (f"kerf {kerf}\n" + "".join(f"board {length} {cost}\n" for length, cost in boards)
            + "".join(f"block {length} {n}\n" for length, n in blocks))


class ReadOnly(list):
    """A list that fails when it is changed, even for a while."""

    def refuse(self, *args, **kwargs):
        raise RuntimeError("what was handed in was changed")

    append = clear = extend = insert = pop = remove = reverse = sort = refuse
    __setitem__ = __delitem__ = __iadd__ = __imul__ = refuse


class EachCallByItself:
    """What holds of every call, whatever it answers: CALL is asked with each of ROWS, one call's arguments."""

    CALL = None
    ROWS = ()

    def handed(self, row, kind=list):
        """The row anew: lists that no other call has been handed."""
        return [kind(value) if isinstance(value, list) else value for value in row]

    def answers(self, rows):
        return [self.CALL(*self.handed(row)) for row in rows]

    def test_what_was_handed_in_is_as_it_was(self):
        for row in self.ROWS:
            handed = self.handed(row)
            answer = self.CALL(*handed)
            self.assertEqual(handed, self.handed(row))
            self.assertFalse(any(value is answer for value in handed))
            self.assertEqual(self.CALL(*self.handed(row, ReadOnly)), answer)

    def test_a_second_call_answers_as_the_first(self):
        first = self.answers(self.ROWS)
        self.assertEqual(self.answers(self.ROWS), first)
        self.assertEqual(self.answers(self.ROWS[::-1]), first[::-1])
        for row, answer in zip(self.ROWS, first):
            handed = self.handed(row)
            self.assertEqual([self.CALL(*handed), self.CALL(*handed)], [answer, answer])

    def test_an_answer_that_is_changed_changes_no_other(self):
        for row in self.ROWS:
            answer = self.CALL(*self.handed(row))
            kept = list(answer)
            answer.append(77)
            answer[0] = 78
            self.assertEqual(self.CALL(*self.handed(row)), kept)

    def test_an_answer_is_a_list_of_whole_numbers(self):
        for answer in self.answers(self.ROWS):
            self.assertIs(type(answer), list)
            self.assertEqual({type(number) for number in answer}, {int})

    def test_nothing_is_printed(self):
        printed = io.StringIO()
        with contextlib.redirect_stdout(printed), contextlib.redirect_stderr(printed):
            self.answers(self.ROWS)
        self.assertEqual(printed.getvalue(), "")
