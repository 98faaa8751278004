"""Tests of read: points 1 and 2 of the document, and what stands ahead of them."""

import unittest

from errandtext.sheet import read
from helper import (
    AT_ONCE_OF_TWO,
    CallChecks,
    EXPRESSION_SHAPES,
    FRONTS,
    MOST,
    NOTHING,
    ONE,
    PLAIN,
    STATEMENT_SHAPES,
    TextRefusals,
    VARIABLE,
    catch,
    deals,
    filled,
    filled_at,
    late_sums,
    loop,
    row_with,
    shallow_answers,
    slots,
    sums,
    then,
    wait,
)

NO_TEXT = [-22]
NO_WAIT = [-33]


class ReadCase(unittest.TestCase):
    def answers(self, row, expected):
        with self.subTest(row=row):
            self.assertEqual(read(list(row)), expected)


class EachAlone(ReadCase):
    def test_each_statement_with_the_plainest_parts(self):
        self.answers([0], [1, 1])
        self.answers([1, 2, 0, 5], [1, 2])
        self.answers([2, 3, 0, 5, 4, 0], [1, 2])
        self.answers([3, 0, 5], [1, 2])
        self.answers([4, 1, 2], [1, 1])
        self.answers([5, 0, 5, 2, 0, 6], [1, 2])
        self.answers([6, 0, 5], [1, 2])
        self.answers([7, 0, 0], [3, 2])
        self.answers([8, 0, 5, 0, 0], [3, 2])
        self.answers([9, 0, 5, 4, 0, 0], [2, 2])
        self.answers([10, 0, 0], [3, 2])
        self.answers([11, 0, 5, 0, 0], [3, 2])
        self.answers([12, 1, 0, 0], [3, 2])
        self.answers([13, 0], [2, 2])
        self.answers([14, 1, 0, 0], [3, 2])

    def test_each_expression_in_a_wait(self):
        self.answers([3, 0, 0], [1, 2])
        self.answers([3, 1, 0], [1, 2])
        for number in range(2, 7):
            self.answers([3, number, 0, 1, 1, 2], [1, 3])

    def test_an_expression_is_no_statement(self):
        self.answers([0, 5], NO_TEXT)
        self.answers([1, 5], NO_TEXT)
        for number in range(2, 7):
            self.answers([number, 0, 1, 0, 1], NO_TEXT)

    def test_the_deeper_part_tells_the_levels(self):
        self.answers([5, 0, 5, 2, 2, 0, 1, 0, 1], [1, 3])
        self.answers([5, 2, 0, 1, 0, 1, 2, 0, 5], [1, 3])
        self.answers([8, 2, 0, 1, 2, 0, 1, 0, 1, 0, 13, 0], [4, 4])
        self.answers([7, 13, 13, 0, 13, 0], [6, 4])
        self.answers([7, 13, 0, 13, 13, 0], [6, 4])


class WithinOneAnother(ReadCase):
    def test_each_statement_in_each_slot_of_each(self):
        # Hearing is a statement of three numbers and one level that waits, so that each loop of it does.
        hear = [4, 0, 0]
        for outer in STATEMENT_SHAPES:
            for slot in slots(outer, "s"):
                for inner in STATEMENT_SHAPES:
                    row = filled_at(outer, slot, filled(inner, hear, ONE), hear, ONE)
                    if outer[0] == 9 and inner[0] in (0, 1, 5, 9):
                        self.answers(row, NO_WAIT)
                        continue
                    count = 1 + len(slots(outer, "s")) + len(slots(inner, "s"))
                    self.answers(row, [count, 3 if len(slots(inner, "s") + slots(inner, "e")) > 0 else 2])

    def test_each_expression_in_each_slot_of_each_statement(self):
        hear = [4, 0, 0]
        for outer in STATEMENT_SHAPES:
            for slot in slots(outer, "e"):
                for inner in EXPRESSION_SHAPES:
                    row = filled_at(outer, slot, filled(inner, hear, ONE), hear, ONE)
                    self.answers(row, [1 + len(slots(outer, "s")), 3 if inner[0] >= 2 else 2])

    def test_each_expression_in_each_slot_of_each_expression(self):
        for outer in EXPRESSION_SHAPES:
            for slot in slots(outer, "e"):
                for inner in EXPRESSION_SHAPES:
                    row = [3] + filled_at(outer, slot, filled(inner, [], ONE), [], ONE)
                    self.answers(row, [1, 4 if inner[0] >= 2 else 3])

    def test_many_statements(self):
        self.answers([7, 7, 0, 0, 10, 0, 13, 0], [8, 4])
        self.answers([7, 13, 0, 7, 13, 0, 13, 0], [8, 4])


class NotOneStatement(ReadCase):
    def test_an_empty_row(self):
        self.answers([], NO_TEXT)

    def test_a_number_too_many(self):
        for shape in STATEMENT_SHAPES:
            self.answers(filled(shape, wait(), ONE) + [0], NO_TEXT)
        self.answers([0, 0], NO_TEXT)
        self.answers([0, MOST], NO_TEXT)

    def test_each_number_missing_at_the_end(self):
        for shape in STATEMENT_SHAPES:
            row = filled(shape, wait(), ONE)
            for count in range(len(row)):
                self.answers(row[:count], NO_TEXT)

    def test_each_number_missing_at_the_end_of_an_expression(self):
        for shape in EXPRESSION_SHAPES:
            row = [3] + filled(shape, [], ONE)
            for count in range(len(row)):
                self.answers(row[:count], NO_TEXT)

    def test_a_statement_of_15_and_more(self):
        for number in (15, 16, 255, MOST):
            self.answers([number], NO_TEXT)
            self.answers([number, 0], NO_TEXT)
            self.answers([number, 0, 0, 0, 0], NO_TEXT)
            self.answers([13, number], NO_TEXT)
            self.answers([7, 0, number], NO_TEXT)

    def test_an_expression_of_7_and_more(self):
        for number in (7, 8, 255, MOST):
            self.answers([3, number], NO_TEXT)
            self.answers([3, number, 0], NO_TEXT)
            self.answers([3, number, 0, 1, 0, 1], NO_TEXT)
            self.answers([3, 2, 0, 1, number, 0], NO_TEXT)


class Bounds(ReadCase):
    def bound(self, front, back, most, expected):
        self.answers(front + [0] + back, expected)
        self.answers(front + [most] + back, expected)
        self.answers(front + [most + 1] + back, NO_TEXT)
        self.answers(front + [MOST] + back, NO_TEXT)

    def test_variables(self):
        self.bound([1], ONE, 7, [1, 2])
        self.bound([2, 0] + ONE, [0], 7, [1, 2])
        self.bound([4, 0], [], 7, [1, 1])
        self.bound([12], NOTHING + NOTHING, 7, [3, 2])
        self.bound([3, 1], [], 7, [1, 2])

    def test_works(self):
        self.bound([2], ONE + [0, 0], 7, [1, 2])

    def test_what_puts_back(self):
        self.bound([2, 0] + ONE + [0], [], 8, [1, 2])

    def test_kinds(self):
        self.bound([4], [0], 3, [1, 1])
        self.bound([5] + ONE, ONE, 3, [1, 2])

    def test_changes(self):
        self.bound([14], NOTHING + NOTHING, 7, [3, 2])

    def test_a_number_may_be_any(self):
        for number in (0, 7, 8, 15, 4294967294, MOST):
            self.answers([3, 0, number], [1, 2])
            self.answers([6, 2, 0, number, 0, number], [1, 3])


class Levels(ReadCase):
    def test_statements(self):
        self.answers(deals(23, NOTHING), [24, 24])
        self.answers(deals(24, NOTHING), NO_TEXT)
        self.answers(deals(199, NOTHING), NO_TEXT)

    def test_statements_in_the_second_part(self):
        self.answers([7, 0] * 23 + [0], [47, 24])
        self.answers([7, 0] * 24 + [0], NO_TEXT)

    def test_expressions(self):
        self.answers([3] + sums(22, ONE), [1, 24])
        self.answers([3] + sums(23, ONE), NO_TEXT)
        self.answers([3] + late_sums(22, VARIABLE), [1, 24])
        self.answers([3] + late_sums(23, VARIABLE), NO_TEXT)

    def test_an_expression_within_statements(self):
        self.answers(deals(22, [3] + ONE), [23, 24])
        self.answers(deals(23, [3] + ONE), NO_TEXT)
        self.answers(deals(10, [3] + sums(12, VARIABLE)), [11, 24])
        self.answers(deals(10, [3] + sums(13, VARIABLE)), NO_TEXT)
        self.answers(deals(11, [3] + sums(12, VARIABLE)), NO_TEXT)

    def test_an_operation_at_the_last_level(self):
        for number in range(2, 7):
            operation = [number] + ONE + VARIABLE
            self.answers([3] + sums(21, operation), [1, 24])
            self.answers([3] + sums(22, operation), NO_TEXT)
            self.answers(deals(21, [3] + operation), [22, 24])
            self.answers(deals(22, [3] + operation), NO_TEXT)

    def test_each_statement_at_the_last_level(self):
        for shape in STATEMENT_SHAPES:
            row = filled(shape, [4, 0, 0], ONE)
            count = 1 + len(slots(shape, "s"))
            alone = shape[0] in (0, 4)
            self.answers(deals(22, row), [22 + count, 23 if alone else 24])
            self.answers(deals(23, row), [24, 24] if alone else NO_TEXT)

    def test_what_has_no_level_is_not_deeper(self):
        self.answers(deals(23, [4, 3, 7]), [24, 24])
        self.answers(deals(22, [1, 7] + ONE), [23, 24])
        self.answers(deals(22, [2, 7] + VARIABLE + [7, 8]), [23, 24])
        self.answers(deals(22, [5] + ONE + [3] + VARIABLE), [23, 24])
        self.answers(deals(22, [12, 7, 0, 0]), [25, 24])
        self.answers(deals(22, [14, 7, 0, 0]), [25, 24])
        self.answers([3] + sums(22, [0, MOST]), [1, 24])
        self.answers([3] + sums(22, [1, 7]), [1, 24])

    def test_a_shallow_part_behind_a_deep_one(self):
        self.answers([7] + deals(22, NOTHING) + NOTHING, [25, 24])
        self.answers([7] + deals(22, NOTHING) + deals(22, NOTHING), [47, 24])
        self.answers([7] + deals(22, NOTHING) + deals(23, NOTHING), NO_TEXT)


class Lengths(ReadCase):
    def test_the_rows_are_as_long_as_told(self):
        for count in (159, 160, 161, 199, 200):
            self.assertEqual(len(row_with(count)), count)

    def test_160_numbers(self):
        self.answers(row_with(159), [159, 8])
        self.answers(row_with(160), [157, 9])

    def test_more_than_160_numbers(self):
        for count in (161, 162, 199, 200):
            self.answers(row_with(count), NO_TEXT)

    def test_numbers_of_expressions_count_too(self):
        put = [1, 0] + late_sums(20, ONE)
        self.assertEqual(len(then(put, then(put, row_with(30)))), 160)
        self.answers(then(put, then(put, row_with(30))), [31, 24])
        self.answers(then(put, then(put, row_with(31))), NO_TEXT)


class Loops(ReadCase):
    """What a statement may do at once shows in loops of it."""

    def may(self, row, expected):
        """Asserts what the row may do at once."""
        with self.subTest(row=row, expected=expected):
            self.assertGreater(read(row)[0], 0)
            ends = read(loop(row)) == NO_WAIT
            # This waits behind the row, so it ends well only where the row fails and nothing is done for it.
            fails = read(loop(catch(then(row, wait()), NOTHING))) == NO_WAIT
            self.assertEqual((ends, fails), (expected in "wb", expected in "fb"))

    def test_statements_without_inner_ones(self):
        self.may([0], "w")
        self.may([1, 0] + ONE, "w")
        self.may([2, 0] + ONE + [0, 0], "-")
        self.may([2, 0] + ONE + [0, 1], "-")
        self.may([3] + ONE, "-")
        self.may([3, 0, 0], "-")
        self.may([4, 0, 0], "-")
        self.may([5] + ONE + [0] + ONE, "w")
        self.may([6] + ONE, "f")
        self.may([6, 0, 0], "f")

    def test_statements_of_two(self):
        for number, table in AT_ONCE_OF_TWO.items():
            for first, letters in zip("-wfb", table):
                for second, expected in zip("-wfb", letters):
                    row = FRONTS[number] + PLAIN[first] + PLAIN[second]
                    self.may(row, expected)

    def test_statements_of_one(self):
        for letter, row in PLAIN.items():
            self.may([13] + row, letter)
        self.may(loop(PLAIN["-"]), "w")
        self.may(loop(PLAIN["f"]), "b")

    def test_an_expression_changes_nothing(self):
        for number in (0, 1):
            self.may([8, 0, number, 0, 4, 0, 0], "w")
            self.may([8, 0, number, 4, 0, 0, 0], "w")
            self.may([9, 0, number, 4, 0, 0], "w")
            self.answers([9, 0, number, 0], NO_WAIT)
            self.may([11, 0, number, 4, 0, 0, 0], "-")

    def test_what_is_answered_of_loops_that_wait(self):
        self.answers(loop([2, 0] + ONE + [0, 0]), [2, 3])
        self.answers(loop(wait()), [2, 3])
        self.answers(loop([4, 0, 0]), [2, 2])
        self.answers(loop([6] + ONE), [2, 3])
        self.answers(loop(then(NOTHING, wait())), [4, 4])
        self.answers(loop(then(wait(), NOTHING)), [4, 4])

    def test_a_loop_of_a_catch_whose_first_part_waits(self):
        self.answers(loop(catch(wait(), NOTHING)), [4, 4])
        self.answers(loop(catch([6] + ONE, wait())), [4, 4])
        self.answers(loop(catch([6] + ONE, NOTHING)), NO_WAIT)
        self.answers(loop(catch([6] + ONE, [6] + ONE)), [4, 4])
        self.answers(loop(catch(NOTHING, wait())), NO_WAIT)

    def test_a_loop_in_a_loop(self):
        self.answers(loop(loop(wait())), NO_WAIT)
        self.answers(loop(loop(NOTHING)), NO_WAIT)
        self.answers(loop(then(loop(wait()), wait())), [5, 5])
        self.answers(loop(then(wait(), loop(wait()))), [5, 5])
        self.answers(loop(then(wait(), loop(NOTHING))), NO_WAIT)

    def test_a_loop_inside_each_other_statement(self):
        for shape in STATEMENT_SHAPES:
            for slot in slots(shape, "s"):
                if shape[0] != 9:
                    count = 2 + len(slots(shape, "s"))
                    self.answers(filled_at(shape, slot, loop([4, 0, 0]), NOTHING, ONE), [count, 3])
                    self.answers(filled_at(shape, slot, loop(NOTHING), [4, 0, 0], ONE), NO_WAIT)

    def test_a_loop_at_the_last_levels(self):
        self.answers(deals(22, loop([4, 0, 0])), [24, 24])
        self.answers(deals(22, loop(NOTHING)), NO_WAIT)
        self.answers(deals(23, loop(NOTHING)), NO_TEXT)

    def test_a_loop_of_many_levels(self):
        self.answers(loop(deals(22, NOTHING)), NO_WAIT)
        self.answers(loop(deals(22, [4, 0, 0])), [24, 24])

    def test_a_loop_that_never_runs_must_wait_too(self):
        self.answers([9, 0, 0, 0], NO_WAIT)
        self.answers([8, 0, 0] + loop(NOTHING) + NOTHING, NO_WAIT)
        self.answers(then([6] + ONE, loop(NOTHING)), NO_WAIT)


class Refusals(TextRefusals, unittest.TestCase):
    call = staticmethod(read)


class Calls(CallChecks, unittest.TestCase):
    ROWS = ([], [0], [0, 0], loop(NOTHING), loop(wait()), row_with(160), row_with(200), deals(23, NOTHING))
    CASES = [(row,) for row in ROWS]
    call = staticmethod(read)

    def numbers_behind(self, first):
        return 1

    def test_no_deep_calls(self):
        rows = [[number] * 200 for number in (2, 7, 9, 13)] + [[3] + sums(22, ONE), deals(22, loop([4, 0, 0]))]
        answers = shallow_answers(read, [(row,) for row in rows])
        self.assertEqual(answers, [NO_TEXT] * 4 + [[1, 24], [24, 24]])


if __name__ == "__main__":
    unittest.main()
