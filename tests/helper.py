"""Rows of numbers for the tests, put together from named pieces."""

import random
import sys

MOST = 4294967295

NOTHING = [0]
ONE = [0, 1]
VARIABLE = [1, 0]

# Each statement, by its letters: s a statement, e an expression, and of the others the greatest number.
STATEMENT_SHAPES = [
    [0],
    [1, 7, "e"],
    [2, 7, "e", 7, 8],
    [3, "e"],
    [4, 3, 7],
    [5, "e", 3, "e"],
    [6, "e"],
    [7, "s", "s"],
    [8, "e", "s", "s"],
    [9, "e", "s"],
    [10, "s", "s"],
    [11, "e", "s", "s"],
    [12, 7, "s", "s"],
    [13, "s"],
    [14, 7, "s", "s"],
]

EXPRESSION_SHAPES = [
    [0, MOST],
    [1, 7],
    [2, "e", "e"],
    [3, "e", "e"],
    [4, "e", "e"],
    [5, "e", "e"],
    [6, "e", "e"],
]

# A statement for each of what one may do at once: - neither, w end well, f fail, b both.
PLAIN = {
    "-": [4, 0, 0],
    "w": [0],
    "f": [6, 0, 1],
    "b": [8, 1, 0, 0, 6, 0, 1],
}

# Of each statement with an A and a B, a row for each of what A may do (- w f b), in it a letter for each of what B may.
AT_ONCE_OF_TWO = {
    7: ("----", "-wfb", "ffff", "fbfb"),
    8: ("-wfb", "wwbb", "fbfb", "bbbb"),
    10: ("--ff", "-wfb", "ffff", "fbfb"),
    11: ("----", "wwww", "ffff", "bbbb"),
    12: ("----", "wwww", "-wfb", "wwbb"),
    14: ("-wfb", "wwbb", "fbfb", "bbbb"),
}

# What stands ahead of their A.
FRONTS = {7: [7], 8: [8, 1, 0], 10: [10], 11: [11, 0, 1], 12: [12, 0], 14: [14, 0]}


def filled(shape, statement, expression):
    """The shape's row with these rows in its slots."""
    row = []
    for piece in shape:
        if piece == "s":
            row += statement
        elif piece == "e":
            row += expression
        else:
            row.append(piece)
    return row


def filled_at(shape, slot, inner, statement, expression):
    """The shape's row with inner in the slot that lies at this index, and plain rows in the others."""
    row = []
    for index, piece in enumerate(shape):
        if index == slot:
            row += inner
        else:
            row += filled([piece], statement, expression)
    return row


def slots(shape, letter):
    return [index for index, piece in enumerate(shape) if piece == letter]


def wait():
    return [3] + ONE


def then(first, second):
    return [7] + first + second


def loop(inner):
    return [9] + VARIABLE + inner


def catch(first, second):
    return [12, 0] + first + second


def deals(count, inner):
    """A statement within so many deals, so that many levels deeper."""
    return [13] * count + inner


def sums(count, inner):
    """An expression as the first part of so many sums, so that many levels deeper."""
    return [2] * count + inner + ONE * count


def late_sums(count, inner):
    """An expression as the second part of so many sums."""
    return ([2] + ONE) * count + inner


def halves(count):
    """One statement of so many numbers (an odd number), each of them a statement: 7 or nothing."""
    if count == 1:
        return [0]
    first = (count - 1) // 2
    if first % 2 == 0:
        first -= 1
    return [7] + halves(first) + halves(count - 1 - first)


def row_with(count):
    """One statement of so many numbers (6 and more), with few levels."""
    if count % 2 == 1:
        return halves(count)
    return then([1, 0] + ONE, halves(count - 5))


def some_piece(source, piece, level, most):
    """A row for this piece of a shape, with at most so many levels."""
    if piece not in ("s", "e"):
        return [source.randint(0, piece)]
    shapes = STATEMENT_SHAPES if piece == "s" else EXPRESSION_SHAPES
    shape = source.choice(shapes)
    if level >= most:
        shape = shapes[0]
    row = [shape[0]]
    for inner in shape[1:]:
        row += some_piece(source, inner, level + 1, most)
    return row


def some_rows():
    """Rows of which many are one statement, or nearly one; the same at each run."""
    source = random.Random(20261118)
    rows = []
    while len(rows) < 4000:
        row = [13] * source.choice((0, 0, 5, 18, 21)) + some_piece(source, "s", 1, source.randint(1, 8))
        if len(row) > 195:
            continue
        place = source.randrange(len(row))
        other = source.choice((0, 1, 2, 3, 4, 5, 6, 7, 8, 9, 13, 14, 15, MOST))
        rows += [row, row[:place], row + [other]]
        rows += [row[:place] + [other] + row[place + 1:], row[:place] + [other] + row[place:]]
    return rows


def tree_and_end(row, place, shapes):
    """What begins at this place, as a list with lists in it, by the shapes alone; then the place behind it."""
    tree = [row[place]]
    place += 1
    for piece in shapes[tree[0]][1:]:
        if piece == "s":
            part, place = tree_and_end(row, place, STATEMENT_SHAPES)
        elif piece == "e":
            part, place = tree_and_end(row, place, EXPRESSION_SHAPES)
        else:
            part = row[place]
            place += 1
        tree.append(part)
    return tree, place


def tree_by_shapes(row):
    """A text as a list of its statement's number and parts, the statements and expressions among them likewise."""
    return tree_and_end(row, 0, STATEMENT_SHAPES)[0]


def calls_deep():
    """How many calls lie within one another where this is called."""
    depth = 0
    frame = sys._getframe(1)
    while frame is not None:
        depth += 1
        frame = frame.f_back
    return depth


class Untouchable(list):
    """A list that won't be changed, not for a while either."""

    def refuse(self, *args, **kwargs):
        raise AssertionError("what was handed in was changed")

    append = clear = extend = insert = pop = remove = reverse = sort = refuse
    __setitem__ = __delitem__ = __iadd__ = __imul__ = refuse
