"""Tests of the whole document: where it usually breaks, what holds, and the interface, of all six functions."""

import contextlib
import inspect
import io
import unittest

import errandtext.sheet
from errandtext.sheet import numbers_of, read, row_of, soon, tidy, tree_of, uses, value, where
from helper import (
    HELD,
    MOST,
    NOTHING,
    ONE,
    VARIABLE,
    catch,
    deals,
    late_sums,
    loop,
    one_behind_another,
    row_with,
    some_expressions,
    some_rows,
    some_texts,
    sum_of,
    sums,
    then,
    wait,
)

FAIL = [6] + ONE
HEAR = [4, 3, 7]
NAUGHTS = [0] * 8


class UsuallyBreaks(unittest.TestCase):
    def no_text(self, row, place):
        """The row isn't one statement: it ceases to be one at this place."""
        for function in (read, uses, soon, tidy):
            self.assertEqual(function(list(row)), [-22], row)
        self.assertEqual(where(list(row)), [place], row)

    def no_expression(self, row):
        for variables in HELD:
            self.assertEqual(value(list(row), list(variables)), [-22], row)

    def text(self, row, counts, sets, at_once, tidied):
        self.assertEqual(read(list(row)), counts)
        self.assertEqual(where(list(row)), [-6])
        self.assertEqual(uses(list(row)), [0] + sets)
        self.assertEqual(soon(list(row)), [at_once])
        self.assertEqual(tidy(list(row)), [len(tidied)] + tidied)

    def without_wait(self, row):
        for function in (read, uses, soon, tidy):
            self.assertEqual(function(list(row)), [-33], row)
        self.assertEqual(where(list(row)), [-6], row)

    def test_an_empty_row(self):
        self.no_text([], 0)
        self.no_expression([])

    def test_a_number_too_many(self):
        self.no_text([0, 0], 1)
        self.no_text(wait() + [MOST], 3)
        self.no_text(row_with(159) + [0], 159)
        self.no_expression(ONE + [0])
        self.no_expression([2] + ONE + VARIABLE + [0])

    def test_a_missing_last_number(self):
        self.no_text([7, 0], 2)
        self.no_text([3, 0], 2)
        self.no_text([2, 0] + ONE + [0], 5)
        self.no_text(row_with(160)[:-1], 159)
        self.no_expression([0])
        self.no_expression([2] + ONE + [1])

    def test_an_operation_at_the_last_level(self):
        for number in range(2, 7):
            operation = [number] + ONE + VARIABLE
            self.no_text([3] + sums(22, operation), 23)
            self.no_text([3] + late_sums(22, operation), 67)
            self.no_text(deals(22, [3] + operation), 23)
            self.no_expression(sums(23, operation))
            self.assertEqual(read([3] + sums(21, operation)), [1, 24])
            self.assertEqual(value(sums(22, operation), NAUGHTS)[0], 0)

    def test_a_variable_8(self):
        self.no_text([1, 8] + ONE, 1)
        self.no_text([2, 0] + ONE + [8, 0], 4)
        self.no_text([4, 0, 8], 2)
        self.no_text([12, 8, 0, 0], 1)
        self.no_text([3, 1, 8], 2)
        self.no_expression([1, 8])

    def test_a_work_8_and_b_of_9_and_a_kind_4(self):
        self.no_text([2, 8] + ONE + [0, 0], 1)
        self.no_text([2, 0] + ONE + [0, 9], 5)
        self.no_text([4, 4, 0], 1)
        self.no_text([5] + ONE + [4] + ONE, 3)
        self.text([2, 7] + ONE + [7, 8], [1, 2], [128, 128, 0, 0, 0, 128], 0, [2, 7] + ONE + [7, 8])

    def test_a_loop_of_a_catch_whose_first_part_waits(self):
        row = loop(catch(HEAR, NOTHING))
        self.text(row, [4, 3], [0, 0, 8, 0, 0, 129], 1, row)
        self.without_wait(loop(catch(FAIL, NOTHING)))
        self.without_wait(loop(catch(NOTHING, HEAR)))

    def test_a_loop_whose_first_part_fails(self):
        self.text(loop(FAIL), [2, 3], [0] * 6, 3, loop(FAIL))
        self.without_wait(loop([8] + VARIABLE + FAIL + NOTHING))

    def test_sums_past_the_modulus(self):
        row = [2, 0, MOST, 0, 6]
        self.text([6] + row, [1, 3], [0] * 6, 2, [6, 0, 5])
        self.assertEqual(value(row, NAUGHTS), [0, 5])
        self.assertEqual(value([2, 1, 0, 1, 1], [MOST, 6] + [0] * 6), [0, 5])

    def test_a_deal_in_a_deal(self):
        self.text(deals(2, HEAR), [3, 3], [0, 0, 8, 0, 0, 128], 0, [13] + HEAR)
        self.text(deals(23, NOTHING), [24, 24], [0] * 6, 1, NOTHING)

    def test_a_variable_that_becomes_itself(self):
        self.text([1, 3, 1, 3], [1, 2], [0, 0, 0, 0, 0, 8], 1, NOTHING)
        self.text([12, 3, 6, 1, 3] + HEAR, [3, 3], [0, 0, 8, 0, 0, 136], 0, HEAR)

    def test_a_loop_that_never_runs(self):
        self.text([9, 0, 0] + HEAR, [2, 2], [0, 0, 8, 0, 0, 128], 1, NOTHING)
        self.text([9, 0, 0] + FAIL, [2, 3], [0] * 6, 3, NOTHING)
        self.without_wait([9, 0, 0, 0])


class WhatHolds(unittest.TestCase):
    def test_what_is_read_told_again_is_the_row_that_was_read(self):
        seen = 0
        for letter, rows in (("s", some_texts() + some_rows()), ("e", some_expressions())):
            for numbers in rows:
                row = row_of(numbers, letter)
                if row.whole:
                    seen += 1
                    self.assertEqual(numbers_of(tree_of(row.told, numbers)), numbers)
        self.assertGreater(seen, 5000)

    def test_where_nothing_is_to_be_tidied_tidy_tells_it_again(self):
        parts = ([1, 2, 1, 3], [2, 3] + ONE + [1, 4], wait(), HEAR, [5] + ONE + [2] + VARIABLE, [3, 2] + VARIABLE + ONE)
        for count in range(1, 20):
            rows = [parts[index % len(parts)] for index in range(count)]
            row = one_behind_another(rows)
            for whole in (row, [10] + row + HEAR, [13] + row, [14, 3] + row + row[:], catch([13] + HEAR, row)):
                if len(whole) <= 160:
                    self.assertEqual(tidy(whole), [len(whole)] + whole)

    def test_what_stands_ahead_of_the_place_could_have_gone_on_and_with_the_number_there_nothing_can(self):
        for index, row in enumerate(some_texts()):
            place = index % len(row)
            front = row[:place]
            for other in (front, front + [15] + row[place:], front + [7] + row[place + 1:], row + [0]):
                told = where(other)[0]
                if told >= 0:
                    ahead = other[:told]
                    while where(ahead) != [-6]:
                        self.assertEqual(where(ahead), [len(ahead)])
                        ahead = ahead + [0]
                    if told < len(other):
                        for back in ([], [0], ONE, [0] * 9, other[told + 1:]):
                            self.assertEqual(where(other[:told + 1] + back), [told])

    def test_tidied_a_text_is_one_no_longer_and_asks_tells_and_hears_nothing_new(self):
        seen = 0
        for row in some_texts():
            answer = tidy(row)
            if answer[0] < 0:
                self.assertEqual(read(row), answer)
                continue
            tidied = answer[1:]
            seen += tidied != row
            self.assertGreater(read(tidied)[0], 0, row)
            self.assertLessEqual(len(tidied), len(row), row)
            self.assertEqual(tidy(tidied), answer, row)
            for before, behind in zip(uses(row), uses(tidied)):
                self.assertEqual(behind | before, before, row)
        self.assertGreater(seen, 2000)

    def test_tidied_an_expression_is_worth_the_same(self):
        for row in some_expressions():
            if len(row) < 160:
                for variables in HELD:
                    self.assertEqual(value(tidy([6] + row)[2:], variables), value(row, variables), row)


class Interface(unittest.TestCase):
    def test_names_and_arguments(self):
        for name in ("read", "where", "uses", "soon", "tidy"):
            self.assertEqual(list(inspect.signature(getattr(errandtext.sheet, name)).parameters), ["text"])
        self.assertEqual(list(inspect.signature(value).parameters), ["e", "the_vars"])

    def test_arguments_by_their_names(self):
        for function in (read, where, uses, soon, tidy):
            self.assertEqual(function(text=wait()), function(wait()))
        self.assertEqual(value(e=VARIABLE, the_vars=[5] * 8), [0, 5])

    def test_nothing_is_printed(self):
        printed = io.StringIO()
        with contextlib.redirect_stdout(printed), contextlib.redirect_stderr(printed):
            for row in ([], [0], loop(NOTHING), then(FAIL, HEAR), row_with(200), sum_of([ONE] * 67)):
                for function in (read, where, uses, soon, tidy):
                    function(row)
                value(row, NAUGHTS)
        self.assertEqual(printed.getvalue(), "")


if __name__ == "__main__":
    unittest.main()
