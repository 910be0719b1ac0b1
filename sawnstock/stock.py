"""The calls that are answered about a stock text, and the reading of that text."""

MOST_BYTES = 4096
MOST_BOARDS = 8
MOST_BLOCKS = 8

LINE_FEED = 10
BLANK = 32
DIGIT_0 = 48
DIGIT_9 = 57

BAD_LIST = -1
TOO_LONG = -2
NO_RIGHT_PLAN = -3
NO_SUCH_BOARD = -4
FAULTY = -6
NOT_RIGHT = -8

SOUND = 0
NOT_FORMED = 1
TOO_MUCH = 2
CANT_STAND = 3

NO_NUMBER = -1

# For each word of a line: the least and the greatest value of each number behind it.
BOUNDS = {
    "kerf": ((0, 16),),
    "board": ((1, 4096), (1, 1000)),
    "block": ((1, 4096), (1, 8)),
}


class Stock:
    """What a stock text says; where it is refused, refusal is the answer instead."""

    def __init__(self):
        self.kerf = None
        self.boards = []
        self.blocks = []
        self.refusal = []


def judge(text):
    """Answer whether the text is one stock: [0], or why it is refused."""
    stock = read_stock(text)
    if stock.refusal != []:
        return stock.refusal
    return [0]


def sizes(text):
    """Answer [0, the kerf, how many boards, how many blocks], or why the text is refused."""
    stock = read_stock(text)
    if stock.refusal != []:
        return stock.refusal
    return [0, stock.kerf, len(stock.boards), len(stock.blocks)]


def check(text, plan):
    """Answer [0, what the plan costs, how many boards it uses], or why the text or the plan is refused."""
    stock = read_stock(text)
    if stock.refusal != []:
        return stock.refusal
    if not is_plan(stock, plan):
        return [BAD_LIST]
    overfull = first_overfull(stock, plan)
    if overfull != []:
        return [NOT_RIGHT] + overfull
    used = [board for board in range(len(stock.boards)) if board in plan]
    return [0, sum([stock.boards[board][1] for board in used]), len(used)]


def best(text):
    """Answer [0, what the best plan costs, how many boards it uses, each block's board], or a refusal."""
    stock = read_stock(text)
    if stock.refusal != []:
        return stock.refusal
    found = best_way(stock)
    if found is None:
        return [NO_RIGHT_PLAN]
    return [0, found[0], found[1]] + plan_of(found[2], len(stock.blocks))


def left(b, text, plan):
    """Answer [what is left of board b when the plan is sawn], or why the text, the plan or b is refused."""
    stock = read_stock(text)
    if stock.refusal != []:
        return stock.refusal
    if not is_plan(stock, plan):
        return [BAD_LIST]
    if b >= len(stock.boards):
        return [NO_SUCH_BOARD]
    if first_overfull(stock, plan) != []:
        return [NOT_RIGHT]
    lengths = lengths_cut(stock, plan, b)
    # A cut behind each block, the last one too; where that cut runs off the end, nothing is left.
    return [max(0, stock.boards[b][0] - sum(lengths) - stock.kerf * len(lengths))]


def fits(b, text, blocks):
    """Answer [1] if the blocks can all be cut from board b, else [0], or why the text, the blocks or b is refused."""
    stock = read_stock(text)
    if stock.refusal != []:
        return stock.refusal
    if not is_set_of_blocks(stock, blocks):
        return [BAD_LIST]
    if b >= len(stock.boards):
        return [NO_SUCH_BOARD]
    if excess(stock, b, [stock.blocks[block] for block in blocks]) > 0:
        return [0]
    return [1]


def is_set_of_blocks(stock, blocks):
    """Whether the list is of numbers of blocks that are there, rising."""
    least = 0
    for block in blocks:
        if block < least or block >= len(stock.blocks):
            return False
        least = block + 1
    return True


def is_plan(stock, plan):
    """Whether the list tells for each block a board that is there."""
    if len(plan) != len(stock.blocks):
        return False
    return all([board < len(stock.boards) for board in plan])


def first_overfull(stock, plan):
    """The first board that the plan overfills and by how much, or [] if the plan is right."""
    for board in range(len(stock.boards)):
        over = excess(stock, board, lengths_cut(stock, plan, board))
        if over > 0:
            return [board, over]
    return []


def lengths_cut(stock, plan, board):
    """The lengths of the blocks that the plan cuts from the board."""
    return [length for length, place in zip(stock.blocks, plan) if place == board]


def excess(stock, board, lengths):
    """By how much blocks of these lengths overfill the board: 0 if they can all be cut from it."""
    if lengths == []:
        return 0
    # One cut less than blocks: behind the last one the saw may run off the end.
    needed = sum(lengths) + stock.kerf * (len(lengths) - 1)
    return max(0, needed - stock.boards[board][0])


def best_way(stock):
    """The best way to cut all blocks, or None if there is no right plan.

    A way is (what it costs, how many boards it uses, its row), so that the lesser of two is the better one. A set of
    blocks is a number with a digit for each block, the first block's highest: 1 if the block is in it, else 0. A row
    has each block's board as its digit, so the lesser row is the first, and a set times a board is that set's row.
    """
    groups = block_groups(stock)
    ways = {0: (0, 0, 0)}
    for board in range(len(stock.boards)):
        fitting = [group for group, lengths in groups if group > 0 and excess(stock, board, lengths) == 0]
        ways = with_board(ways, board, stock.boards[board][1], fitting)
    everything = groups[-1][0]
    return ways.get(everything)


def block_groups(stock):
    """Every set of the stock's blocks with their lengths, the empty one first and that of all blocks last."""
    groups = [(0, [])]
    digit = 1
    for length in reversed(stock.blocks):
        groups = groups + [(group + digit, lengths + [length]) for group, lengths in groups]
        digit = digit * MOST_BOARDS
    return groups


def with_board(ways, board, cost, fitting):
    """The best way for each set of blocks, when the board may be used beside those that the ways use."""
    better = dict(ways)
    for cut, way in ways.items():
        for group in fitting:
            # A digit is three bits, so that no bit in both is no block in both.
            if (cut & group) == 0:
                offer(better, cut + group, (way[0] + cost, way[1] + 1, way[2] + board * group))
    return better


def offer(kept, cut, way):
    """Keep the way for the blocks that it cuts, unless one as good is kept already."""
    if cut not in kept or way < kept[cut]:
        kept[cut] = way


def plan_of(row, count):
    """The boards of so many blocks, in order, that are the digits of the row."""
    plan = []
    rest = row
    for place in range(count):
        plan.insert(0, rest % MOST_BOARDS)
        rest = rest // MOST_BOARDS
    return plan


def read_stock(text):
    """Read a text as far as it is right; boards are pairs (length, cost), blocks lengths."""
    stock = Stock()
    if len(text) > MOST_BYTES:
        stock.refusal = [TOO_LONG]
        return stock
    fault = take_lines(stock, split_at(text, LINE_FEED))
    if fault != []:
        stock.refusal = [FAULTY] + fault
    return stock


def take_lines(stock, pieces):
    """Put the lines into the stock up to the first fault, and give back its line and why, or []."""
    lines = pieces[:-1]
    for place, line in enumerate(lines):
        why = take_line(stock, line)
        if why != SOUND:
            return [place, why]
    # The last piece is what no line feed stands behind: of a whole text it is empty.
    if pieces[-1] != []:
        return [len(lines), NOT_FORMED]
    if stock.blocks == []:
        return [len(lines), CANT_STAND]
    return []


def take_line(stock, line):
    """Put one line into the stock, or leave the stock as it is and give back what is wrong."""
    pieces = split_at(line, BLANK)
    word = word_of(pieces[0])
    if word == "":
        return NOT_FORMED
    numbers = numbers_of(pieces[1:], BOUNDS[word])
    if numbers == []:
        return NOT_FORMED
    if not can_stand(stock, word):
        return CANT_STAND
    if is_too_much(stock, word, numbers):
        return TOO_MUCH
    put(stock, word, numbers)
    return SOUND


def can_stand(stock, word):
    """Whether a line with this word may follow what the stock has so far."""
    if word == "kerf":
        return stock.kerf is None
    if word == "board":
        return stock.kerf is not None and stock.blocks == []
    return stock.boards != []


def is_too_much(stock, word, numbers):
    """Whether the line would give the stock more boards or blocks than it may have."""
    if word == "board":
        return len(stock.boards) == MOST_BOARDS
    if word == "block":
        return len(stock.blocks) + numbers[1] > MOST_BLOCKS
    return False


def put(stock, word, numbers):
    """Put into the stock what a right line says."""
    if word == "kerf":
        stock.kerf = numbers[0]
    elif word == "board":
        stock.boards.append((numbers[0], numbers[1]))
    else:
        stock.blocks.extend([numbers[0]] * numbers[1])


def word_of(signs):
    """The word that the bytes spell, or an empty text if it is none of a stock's."""
    for word in BOUNDS:
        if signs == [ord(letter) for letter in word]:
            return word
    return ""


def numbers_of(pieces, bounds):
    """The numbers that the pieces write, or [] if they are not as many or not within the bounds."""
    if len(pieces) != len(bounds):
        return []
    numbers = []
    for digits, bound in zip(pieces, bounds):
        number = number_of(digits, bound[1])
        if number < bound[0]:
            return []
        numbers.append(number)
    return numbers


def number_of(digits, most):
    """The number that the bytes write, or NO_NUMBER if they write none or one above most."""
    if digits == []:
        return NO_NUMBER
    if digits[0] == DIGIT_0 and len(digits) > 1:
        return NO_NUMBER
    number = 0
    for digit in digits:
        if digit < DIGIT_0 or digit > DIGIT_9:
            return NO_NUMBER
        number = number * 10 + digit - DIGIT_0
        # Left here, so that thousands of digits never grow into a huge number.
        if number > most:
            return NO_NUMBER
    return number


def split_at(signs, mark):
    """What stands ahead of, between and behind the marks, empty pieces too."""
    pieces = []
    piece = []
    for sign in signs:
        if sign == mark:
            pieces.append(piece)
            piece = []
        else:
            piece.append(sign)
    pieces.append(piece)
    return pieces
