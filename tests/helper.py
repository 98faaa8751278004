"""Rows of numbers for the tests, put together from named pieces."""

import random
import sys

MOST = 4294967295

NOTHING = [0]
ONE = [0, 1]
VARIABLE = [1, 0]

# Each statement, by its letters: s a statement, e an expression, and of the others the greatest number.
STATEMENT_SHAPES = [
    [0],
    [1, 7, "e"],
    [2, 7, "e", 7, 8],
    [3, "e"],
    [4, 3, 7],
    [5, "e", 3, "e"],
    [6, "e"],
    [7, "s", "s"],
    [8, "e", "s", "s"],
    [9, "e", "s"],
    [10, "s", "s"],
    [11, "e", "s", "s"],
    [12, 7, "s", "s"],
    [13, "s"],
    [14, 7, "s", "s"],
]

EXPRESSION_SHAPES = [
    [0, MOST],
    [1, 7],
    [2, "e", "e"],
    [3, "e", "e"],
    [4, "e", "e"],
    [5, "e", "e"],
    [6, "e", "e"],
]

# Of each expression of two others, what it's worth where these are the first two numbers.
HALF = 2147483648
OF_TWO = {
    2: [(0, 0, 0), (3, 5, 8), (5, 5, 10), (5, 3, 8), (HALF, HALF - 1, MOST), (HALF, HALF, 0), (MOST, 0, MOST),
        (MOST, 1, 0), (1, MOST, 0), (MOST, 2, 1), (MOST, MOST, MOST - 1)],
    3: [(5, 3, 2), (5, 5, 0), (3, 5, 0), (0, 1, 0), (0, MOST, 0), (MOST, 0, MOST), (MOST, MOST, 0),
        (MOST, MOST - 1, 1), (MOST - 1, MOST, 0)],
    4: [(3, 5, 15), (5, 5, 25), (5, 3, 15), (0, MOST, 0), (MOST, 1, MOST), (65536, 65535, 4294901760),
        (65536, 65536, 0), (65537, 65537, 131073), (MOST, 2, MOST - 1), (MOST, MOST, 1)],
    5: [(3, 5, 1), (5, 5, 0), (5, 3, 0), (0, MOST, 1), (MOST, 0, 0), (MOST, MOST, 0)],
    6: [(3, 5, 0), (5, 5, 1), (5, 3, 0), (0, 0, 1), (MOST, 0, 0), (MOST, MOST, 1)],
}

# What the variables may hold.
HELD = (
    [0] * 8,
    [1] * 8,
    [MOST] * 8,
    [3, 1, 4, 1, 5, 9, 2, 6],
    [65536, MOST, 0, 7, 2, 1, 8, 2147483648],
)

# A statement for each of what one may do at once: - neither, w end well, f fail, b both.
PLAIN = {
    "-": [4, 0, 0],
    "w": [0],
    "f": [6, 0, 1],
    "b": [8, 1, 0, 0, 6, 0, 1],
}

# Of each statement with an A and a B, a row for each of what A may do (- w f b), in it a letter for each of what B may.
AT_ONCE_OF_TWO = {
    7: ("----", "-wfb", "ffff", "fbfb"),
    8: ("-wfb", "wwbb", "fbfb", "bbbb"),
    10: ("--ff", "-wfb", "ffff", "fbfb"),
    11: ("----", "wwww", "ffff", "bbbb"),
    12: ("----", "wwww", "-wfb", "wwbb"),
    14: ("-wfb", "wwbb", "fbfb", "bbbb"),
}

# What stands ahead of their A.
FRONTS = {7: [7], 8: [8, 1, 0], 10: [10], 11: [11, 0, 1], 12: [12, 0], 14: [14, 0]}


def filled(shape, statement, expression):
    """The shape's row with these rows in its slots."""
    row = []
    for piece in shape:
        if piece == "s":
            row += statement
        elif piece == "e":
            row += expression
        else:
            row.append(piece)
    return row


def filled_at(shape, slot, inner, statement, expression):
    """The shape's row with inner in the slot that lies at this index, and plain rows in the others."""
    row = []
    for index, piece in enumerate(shape):
        if index == slot:
            row += inner
        else:
            row += filled([piece], statement, expression)
    return row


def slots(shape, letter):
    return [index for index, piece in enumerate(shape) if piece == letter]


def wait():
    return [3] + ONE


def then(first, second):
    return [7] + first + second


def loop(inner):
    return [9] + VARIABLE + inner


def catch(first, second):
    return [12, 0] + first + second


def deals(count, inner):
    """A statement within so many deals, so that many levels deeper."""
    return [13] * count + inner


def sums(count, inner):
    """An expression as the first part of so many sums, so that many levels deeper."""
    return [2] * count + inner + ONE * count


def late_sums(count, inner):
    """An expression as the second part of so many sums."""
    return ([2] + ONE) * count + inner


def one_behind_another(rows):
    """One statement that does these, with few levels."""
    if len(rows) == 1:
        return rows[0]
    half = len(rows) // 2
    return then(one_behind_another(rows[:half]), one_behind_another(rows[half:]))


def halves(count):
    """One statement of so many numbers (an odd number), each of them a statement: 7 or nothing."""
    if count == 1:
        return [0]
    first = (count - 1) // 2
    if first % 2 == 0:
        first -= 1
    return [7] + halves(first) + halves(count - 1 - first)


def sum_of(parts):
    """One expression that is the sum of these, with few levels."""
    if len(parts) == 1:
        return parts[0]
    half = len(parts) // 2
    return [2] + sum_of(parts[:half]) + sum_of(parts[half:])


def row_with(count):
    """One statement of so many numbers (6 and more), with few levels."""
    if count % 2 == 1:
        return halves(count)
    return then([1, 0] + ONE, halves(count - 5))


def some_piece(source, piece, level, most):
    """A row for this piece of a shape, with at most so many levels."""
    if piece not in ("s", "e"):
        return [source.randint(0, piece)]
    shapes = STATEMENT_SHAPES if piece == "s" else EXPRESSION_SHAPES
    shape = source.choice(shapes)
    if level >= most:
        shape = shapes[0]
    row = [shape[0]]
    for inner in shape[1:]:
        row += some_piece(source, inner, level + 1, most)
    return row


def some_rows():
    """Rows of which many are one statement, or nearly one; the same at each run."""
    source = random.Random(20261118)
    rows = []
    while len(rows) < 4000:
        row = [13] * source.choice((0, 0, 5, 18, 21)) + some_piece(source, "s", 1, source.randint(1, 8))
        if len(row) > 195:
            continue
        place = source.randrange(len(row))
        other = source.choice((0, 1, 2, 3, 4, 5, 6, 7, 8, 9, 13, 14, 15, MOST))
        rows += [row, row[:place], row + [other]]
        rows += [row[:place] + [other] + row[place + 1:], row[:place] + [other] + row[place:]]
    return rows


def grown(source, shape, pools):
    """The shape's row with rows out of the pools in its slots, often the first of these, and often two alike."""
    row = [shape[0]]
    taken = {}
    for piece in shape[1:]:
        if piece not in pools:
            row.append(source.randint(0, min(piece, 2)))
            continue
        if piece not in taken or source.randrange(3) > 0:
            pool = pools[piece]
            taken[piece] = source.choice(pool[:8] if source.randrange(2) == 0 else pool)
        row += taken[piece]
    return row


def some_pools():
    """Statements and expressions of few and small numbers, so that much can be tidied; the same at each run."""
    source = random.Random(20261118)
    pools = {
        "s": [[0], [0], [6, 0, 1], [6, 1, 0], [1, 0, 1, 0], [4, 0, 0], [3, 0, 1], [13, 4, 0, 1]],
        "e": [[0, 0], [0, 0], [0, 1], [0, 65536], [0, MOST], [1, 0], [1, 0], [1, 1]],
    }
    while len(pools["s"]) < 6000:
        for piece, shapes, most in (("e", EXPRESSION_SHAPES[2:], 20), ("s", STATEMENT_SHAPES[1:], 160)):
            row = grown(source, source.choice(shapes), pools)
            if len(row) <= most:
                pools[piece].append(row)
    return pools


def some_texts():
    """Rows that are one statement; the same at each run."""
    return some_pools()["s"]


def some_expressions():
    """Rows that are one expression; the same at each run."""
    source = random.Random(20261118)
    rows = [some_piece(source, "e", 1, source.randint(1, 7)) for count in range(4000)]
    return some_pools()["e"] + [row for row in rows if len(row) <= 200]


def worth_and_end(row, place, variables):
    """What the expression that begins at this place is worth, then the place behind it."""
    number = row[place]
    if number < 2:
        return (variables[row[place + 1]] if number == 1 else row[place + 1]), place + 2
    first, place = worth_and_end(row, place + 1, variables)
    second, place = worth_and_end(row, place, variables)
    results = {2: first + second, 3: max(0, first - second), 4: first * second, 5: first < second, 6: first == second}
    return int(results[number]) & MOST, place


def worth(expression, variables=()):
    return worth_and_end(expression, 0, variables)[0]


def tree_and_end(row, place, shapes):
    """What begins at this place, as a list with lists in it, by the shapes alone; then the place behind it."""
    tree = [row[place]]
    place += 1
    for piece in shapes[tree[0]][1:]:
        if piece == "s":
            part, place = tree_and_end(row, place, STATEMENT_SHAPES)
        elif piece == "e":
            part, place = tree_and_end(row, place, EXPRESSION_SHAPES)
        else:
            part = row[place]
            place += 1
        tree.append(part)
    return tree, place


def tree_by_shapes(row):
    """A text as a list of its statement's number and parts, the statements and expressions among them likewise."""
    return tree_and_end(row, 0, STATEMENT_SHAPES)[0]


def calls_deep():
    """How many calls lie within one another where this is called."""
    depth = 0
    frame = sys._getframe(1)
    while frame is not None:
        depth += 1
        frame = frame.f_back
    return depth


class Untouchable(list):
    """A list that won't be changed, not for a while either."""

    def refuse(self, *args, **kwargs):
        raise AssertionError("what was handed in was changed")

    append = clear = extend = insert = pop = remove = reverse = sort = refuse
    __setitem__ = __delitem__ = __iadd__ = __imul__ = refuse


def shallow_answers(call, cases):
    """What the function answers in each case, if only some hundred calls may lie within one another."""
    limit = sys.getrecursionlimit()
    sys.setrecursionlimit(calls_deep() + 120)
    try:
        return [call(*case) for case in cases]
    finally:
        sys.setrecursionlimit(limit)


class CallChecks:
    """What is asked of each function's calls. A test case that takes it has the function as call, the cases as CASES
    (tuples of the lists that are handed in), and numbers_behind."""

    def numbers_behind(self, first):
        """How many numbers stand behind this one, which isn't a refusal."""
        raise NotImplementedError

    def test_what_is_handed_in_is_not_changed(self):
        for case in self.CASES:
            handed = tuple(Untouchable(row) for row in case)
            self.call(*handed)
            self.assertEqual(tuple(list(row) for row in handed), case)

    def test_a_second_call_answers_the_same(self):
        for case in self.CASES:
            first = self.call(*case)
            kept = list(first)
            second = self.call(*case)
            self.assertEqual(second, kept)
            second.append(1)
            self.assertEqual(first, kept)
            self.assertEqual(self.call(*case), kept)

    def test_calls_between_change_nothing(self):
        expected = [self.call(*case) for case in self.CASES]
        self.assertEqual([self.call(*case) for case in reversed(self.CASES)], expected[::-1])

    def test_the_answer_is_a_list_of_plain_ints(self):
        for case in self.CASES:
            answer = self.call(*case)
            self.assertIs(type(answer), list)
            self.assertEqual([type(number) for number in answer], [int] * len(answer))
            self.assertEqual(len(answer), 1 if answer[0] < 0 else 1 + self.numbers_behind(answer[0]))


class TextRefusals:
    """What read, uses, soon and tidy refuse alike. A test case that takes it has the function as call."""

    def refuses(self, row, refusal):
        with self.subTest(row=row):
            self.assertEqual(self.call(list(row)), [refusal])

    def test_an_empty_row(self):
        self.refuses([], -22)

    def test_a_number_too_many_or_missing(self):
        rows = [filled(shape, wait(), ONE) for shape in STATEMENT_SHAPES]
        rows += [[3] + filled(shape, [], ONE) for shape in EXPRESSION_SHAPES]
        for row in rows:
            self.refuses(row + [0], -22)
            for count in range(len(row)):
                self.refuses(row[:count], -22)

    def test_numbers_past_their_range(self):
        for row in ([15], [MOST], [3, 7, 0], [3, 1, 8], [1, 8] + ONE, [2, 8] + ONE + [0, 0], [2, 0] + ONE + [8, 0],
                    [2, 0] + ONE + [0, 9], [4, 4, 0], [4, 0, 8], [5] + ONE + [4] + ONE, [12, 8, 0, 0], [14, 8, 0, 0]):
            self.refuses(row, -22)

    def test_more_than_160_numbers(self):
        for count in (161, 162, 199, 200):
            self.refuses(row_with(count), -22)

    def test_more_than_24_levels(self):
        self.refuses(deals(24, NOTHING), -22)
        self.refuses(deals(23, wait()), -22)
        self.refuses([3] + sums(23, ONE), -22)
        self.refuses([3] + late_sums(23, VARIABLE), -22)

    def test_a_loop_that_does_not_wait_anywhere(self):
        bad = loop(NOTHING)
        self.refuses(bad, -33)
        self.refuses([13] + bad, -33)
        self.refuses(loop(then(wait(), bad)), -33)
        for front in FRONTS.values():
            for other in PLAIN.values():
                self.refuses(front + bad + other, -33)
                self.refuses(front + other + bad, -33)

    def test_where_both_are_due_the_one_told_first_is_answered(self):
        bad = loop(NOTHING)
        self.refuses(bad + [0], -22)
        self.refuses([7] + bad, -22)
        self.refuses([7] + bad + [15], -22)
        self.refuses([7] + bad + deals(23, NOTHING), -22)
        self.refuses(then(bad, row_with(155)), -33)
        self.refuses(then(bad, row_with(156)), -22)
        self.refuses(then(bad, row_with(195)), -22)
