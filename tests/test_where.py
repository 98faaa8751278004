"""Tests of where: point 2 of the document, and b of what holds."""

import unittest

from errandtext.sheet import read, where
from helper import (
    CallChecks,
    EXPRESSION_SHAPES,
    MOST,
    NOTHING,
    ONE,
    STATEMENT_SHAPES,
    VARIABLE,
    deals,
    filled,
    filled_at,
    late_sums,
    loop,
    row_with,
    shallow_answers,
    slots,
    some_rows,
    sums,
    then,
    wait,
)

WHOLE = [-6]


class WhereCase(unittest.TestCase):
    def answers(self, row, expected):
        with self.subTest(row=row):
            self.assertEqual(where(list(row)), expected)


class OneStatement(WhereCase):
    def test_each_statement(self):
        for shape in STATEMENT_SHAPES:
            self.answers(filled(shape, NOTHING, ONE), WHOLE)
            self.answers(filled(shape, wait(), VARIABLE), WHOLE)

    def test_each_expression(self):
        for shape in EXPRESSION_SHAPES:
            self.answers([3] + filled(shape, [], VARIABLE), WHOLE)

    def test_each_within_each(self):
        for outer in STATEMENT_SHAPES:
            for slot in slots(outer, "s"):
                for inner in STATEMENT_SHAPES:
                    self.answers(filled_at(outer, slot, filled(inner, NOTHING, ONE), NOTHING, ONE), WHOLE)
            for slot in slots(outer, "e"):
                for inner in EXPRESSION_SHAPES:
                    self.answers(filled_at(outer, slot, filled(inner, NOTHING, ONE), NOTHING, ONE), WHOLE)

    def test_rows_of_more_than_160_numbers(self):
        for count in (159, 160, 161, 162, 180, 199, 200):
            self.answers(row_with(count), WHOLE)

    def test_loops_that_do_not_wait(self):
        self.answers(loop(NOTHING), WHOLE)
        self.answers(loop(loop(NOTHING)), WHOLE)
        self.answers(then(loop(NOTHING), row_with(155)), WHOLE)
        self.answers(then(loop(NOTHING), row_with(195)), WHOLE)


class Missing(WhereCase):
    def test_an_empty_row(self):
        self.answers([], [0])

    def test_each_number_of_each_statement(self):
        for shape in STATEMENT_SHAPES:
            for row in (filled(shape, NOTHING, ONE), filled(shape, [5, 1, 7, 3, 0, 9], [6, 1, 7, 0, 8])):
                for count in range(len(row)):
                    self.answers(row[:count], [count])

    def test_each_number_of_each_expression(self):
        for shape in EXPRESSION_SHAPES:
            row = [3] + filled(shape, [], VARIABLE)
            for count in range(len(row)):
                self.answers(row[:count], [count])

    def test_each_number_of_long_rows(self):
        row = row_with(200)
        for count in range(len(row)):
            self.answers(row[:count], [count])

    def test_200_numbers_and_more_to_come(self):
        row = [7] + row_with(199)
        self.assertEqual(len(row), 200)
        self.answers(row, [200])


class TooMany(WhereCase):
    def test_behind_each_statement(self):
        for shape in STATEMENT_SHAPES:
            row = filled(shape, NOTHING, ONE)
            for number in (0, 1, 15, MOST):
                self.answers(row + [number], [len(row)])
                self.answers(row + [number] * 3, [len(row)])

    def test_behind_long_rows(self):
        for count in (160, 161, 199):
            self.answers(row_with(count) + [0], [count])


class CannotStand(WhereCase):
    def bound(self, front, back, most):
        """Behind front stands a number of at most this; back makes it a statement."""
        for number in (0, most):
            self.answers(front + [number] + back, WHOLE)
        for number in (most + 1, most + 2, MOST):
            self.answers(front + [number], [len(front)])
            self.answers(front + [number] + back, [len(front)])

    def test_statements(self):
        self.answers([14, 0, 0, 0], WHOLE)
        for number in (15, 16, MOST):
            self.answers([number], [0])
            self.answers([number, 0, 0, 0, 0], [0])
        for shape in STATEMENT_SHAPES:
            for slot in slots(shape, "s"):
                front = filled(shape[:slot], NOTHING, ONE)
                back = filled(shape[slot + 1:], NOTHING, ONE)
                self.answers(front + [14, 0, 0, 0] + back, WHOLE)
                for number in (15, 16, MOST):
                    self.answers(front + [number], [len(front)])
                    self.answers(front + [number] + back, [len(front)])

    def test_expressions(self):
        shapes = STATEMENT_SHAPES + [[3] + shape for shape in EXPRESSION_SHAPES]
        for shape in shapes:
            for slot in slots(shape, "e"):
                front = filled(shape[:slot], NOTHING, ONE)
                back = filled(shape[slot + 1:], NOTHING, ONE)
                self.answers(front + [6, 0, 7, 0, 7] + back, WHOLE)
                for number in (7, 8, MOST):
                    self.answers(front + [number], [len(front)])
                    self.answers(front + [number, 0] + back, [len(front)])

    def test_variables(self):
        self.bound([1], ONE, 7)
        self.bound([2, 0] + ONE, [0], 7)
        self.bound([4, 0], [], 7)
        self.bound([12], NOTHING + NOTHING, 7)
        self.bound([3, 1], [], 7)
        self.bound([3, 2, 1], VARIABLE, 7)
        self.bound([3, 2] + ONE + [1], [], 7)

    def test_works(self):
        self.bound([2], ONE + [0, 0], 7)

    def test_what_puts_back(self):
        self.bound([2, 0] + ONE + [0], [], 8)

    def test_kinds(self):
        self.bound([4], [0], 3)
        self.bound([5] + ONE, ONE, 3)

    def test_changes(self):
        self.bound([14], NOTHING + NOTHING, 7)

    def test_a_number_may_be_any(self):
        for number in (0, 7, 8, 9, 15, 4294967294, MOST):
            self.answers([3, 0, number], WHOLE)
            self.answers([8, 5, 0, number, 0, number, 0, 0], WHOLE)

    def test_past_160_numbers(self):
        row = row_with(200)
        for place in (159, 160, 161, 198, 199):
            self.answers(row[:place] + [15] + row[place + 1:], [place])

    def test_the_first_of_several_faults(self):
        self.answers([15, 15, 15], [0])
        self.answers([7, 15, 15], [1])
        self.answers([1, 8, 7], [1])
        self.answers([1, 7, 7, 8], [2])
        self.answers([2, 8, 0, 0, 8, 9], [1])
        self.answers([2, 7, 0, 0, 8, 9], [4])
        self.answers([2, 7, 0, 0, 7, 9], [5])
        self.answers([4, 4, 8], [1])
        self.answers([4, 3, 8, 0], [2])
        self.answers([4, 3, 7, 8], [3])
        self.answers([7, 0, 4, 4], [3])
        self.answers(deals(23, [13, 15]), [23])
        self.answers([7, 15] + deals(30, NOTHING), [1])


class Levels(WhereCase):
    def test_statements(self):
        self.answers(deals(23, NOTHING), WHOLE)
        self.answers(deals(24, NOTHING), [23])
        self.answers(deals(23, []), [23])
        self.answers(deals(24, []), [23])
        self.answers(deals(200, []), [23])

    def test_statements_in_the_second_part(self):
        self.answers([7, 0] * 23 + [0], WHOLE)
        self.answers([7, 0] * 24 + [0], [46])

    def test_each_statement_at_the_last_level(self):
        for shape in STATEMENT_SHAPES:
            row = filled(shape, NOTHING, ONE)
            alone = shape[0] in (0, 4)
            self.answers(deals(22, row), WHOLE)
            self.answers(deals(23, row), WHOLE if alone else [23])
            # Its own number is the last one here, and yet it can't stand.
            self.answers(deals(23, row[:1]), WHOLE if shape[0] == 0 else [24] if alone else [23])

    def test_each_expression_at_the_last_level(self):
        for shape in EXPRESSION_SHAPES:
            row = filled(shape, [], ONE)
            alone = shape[0] in (0, 1)
            self.answers([3] + late_sums(21, row), WHOLE)
            self.answers([3] + late_sums(22, row), WHOLE if alone else [67])
            self.answers([3] + late_sums(22, row[:1]), [68] if alone else [67])
            self.answers([3] + sums(22, row), WHOLE if alone else [23])
            self.answers(deals(22, [3] + row), WHOLE if alone else [23])
            self.answers(deals(22, [3] + row[:1]), [24] if alone else [23])

    def test_an_expression_within_statements(self):
        self.answers(deals(10, [3] + sums(12, VARIABLE)), WHOLE)
        self.answers(deals(10, [3] + sums(13, VARIABLE)), [23])
        self.answers(deals(11, [3] + sums(12, VARIABLE)), [23])
        self.answers(deals(23, [3] + VARIABLE), [23])

    def test_what_has_no_level_is_not_deeper(self):
        self.answers(deals(23, [4, 3, 7]), WHOLE)
        self.answers(deals(23, [4, 4, 7]), [24])
        self.answers(deals(23, [4, 3, 8]), [25])
        self.answers(deals(22, [1, 7] + ONE), WHOLE)
        self.answers(deals(22, [2, 7] + VARIABLE + [7, 8]), WHOLE)
        self.answers(deals(22, [2, 7] + VARIABLE + [7, 9]), [27])
        self.answers(deals(22, [5] + ONE + [3] + VARIABLE), WHOLE)
        self.answers(deals(22, [12, 7, 0, 0]), WHOLE)
        self.answers(deals(22, [14, 7, 0, 0]), WHOLE)
        self.answers([3] + sums(22, [0, MOST]), WHOLE)
        self.answers([3] + sums(22, [1, 7]), WHOLE)

    def test_levels_past_160_numbers(self):
        front = [7] + row_with(159)
        self.answers(front + deals(22, NOTHING), WHOLE)
        self.answers(front + deals(23, NOTHING), [182])

    def test_a_part_behind_a_deep_one(self):
        self.answers([7] + deals(22, NOTHING) + deals(22, NOTHING), WHOLE)
        self.answers([7] + deals(22, NOTHING) + deals(23, NOTHING), [46])


class Fault(Exception):
    """Tells the place of a fault."""


def end_of(row, place, shapes, level):
    """The place behind what begins at this one, by the shapes alone."""
    if place == len(row) or row[place] >= len(shapes):
        raise Fault(place)
    shape = shapes[row[place]]
    if level == 24 and ("s" in shape or "e" in shape):
        raise Fault(place)
    place += 1
    for piece in shape[1:]:
        if piece == "s":
            place = end_of(row, place, STATEMENT_SHAPES, level + 1)
        elif piece == "e":
            place = end_of(row, place, EXPRESSION_SHAPES, level + 1)
        elif place == len(row) or row[place] > piece:
            raise Fault(place)
        else:
            place += 1
    return place


def place_by_shapes(row):
    try:
        end = end_of(row, 0, STATEMENT_SHAPES, 1)
    except Fault as fault:
        return fault.args[0]
    return -6 if end == len(row) else end


class WhatHolds(unittest.TestCase):
    def test_the_same_as_by_the_shapes(self):
        for row in some_rows():
            self.assertEqual(where(row), [place_by_shapes(row)], row)

    def test_read_takes_what_where_does(self):
        for row in some_rows():
            whole = where(row) == WHOLE and len(row) <= 160
            self.assertEqual(read(row) != [-22], whole, row)

    def test_what_stands_ahead_could_have_gone_on(self):
        for row in some_rows():
            place = where(row)[0]
            if place >= 0:
                # What stands ahead may be a statement already; else naughts, which can stand anywhere, make it one.
                ahead = row[:place]
                while where(ahead) != WHOLE:
                    self.assertEqual(where(ahead), [len(ahead)], row)
                    ahead = ahead + [0]

    def test_with_the_number_at_that_place_nothing_can(self):
        for row in some_rows():
            place = where(row)[0]
            if 0 <= place < len(row):
                for back in ([], [0], [0] * 9, [15], [MOST], ONE, VARIABLE, wait()):
                    self.assertEqual(where(row[:place + 1] + back), [place], row)


class Calls(CallChecks, unittest.TestCase):
    ROWS = ([], [0], [0, 0], loop(NOTHING), [1, 8], row_with(160), row_with(200), deals(23, NOTHING), deals(24, NOTHING))
    CASES = [(row,) for row in ROWS]
    call = staticmethod(where)

    def numbers_behind(self, first):
        return 0

    def test_no_deep_calls(self):
        rows = [[3] + [2] * 199, [7] * 200, [9, 0, 0] * 60, row_with(200)]
        answers = shallow_answers(where, [(row,) for row in rows])
        self.assertEqual(answers, [[23], [23], [69], WHOLE])


if __name__ == "__main__":
    unittest.main()
