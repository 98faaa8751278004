"""Tests of value: point 4 of the document, and what stands ahead of it."""

import unittest

from errandtext.sheet import tidy, value
from helper import (
    CallChecks,
    EXPRESSION_SHAPES,
    HALF,
    HELD,
    MOST,
    NOTHING,
    OF_TWO,
    ONE,
    STATEMENT_SHAPES,
    VARIABLE,
    deals,
    filled,
    filled_at,
    late_sums,
    row_with,
    shallow_answers,
    slots,
    some_expressions,
    some_rows,
    sum_of,
    sums,
    wait,
    worth,
)

REFUSED = [-22]
NAUGHTS = [0] * 8


class ValueCase(unittest.TestCase):
    def answers(self, row, variables, expected):
        with self.subTest(row=row, variables=variables):
            self.assertEqual(value(list(row), list(variables)), expected)

    def worth(self, row, expected, variables=NAUGHTS):
        self.answers(row, variables, [0, expected])

    def refused(self, row, variables=NAUGHTS):
        self.answers(row, variables, REFUSED)


class Alone(ValueCase):
    def test_numbers(self):
        for number in (0, 1, 7, 8, 15, HALF, MOST - 1, MOST):
            for variables in HELD:
                self.worth([0, number], number, variables)

    def test_variables(self):
        held = [10, 21, 32, 43, 54, 65, 76, 87]
        for variable in range(8):
            self.worth([1, variable], held[variable], held)
            self.worth([1, variable], held[7 - variable], held[::-1])

    def test_variables_that_hold_the_least_and_the_most(self):
        for variable in range(8):
            for held in (0, MOST):
                others = MOST - held
                variables = [others] * variable + [held] + [others] * (7 - variable)
                self.worth([1, variable], held, variables)

    def test_a_variable_8(self):
        for variable in (8, 9, 10, MOST):
            self.refused([1, variable])
            self.refused([1, variable], [5] * 9)
            self.refused([1, variable], [5] * 10)
            self.refused([2] + ONE + [1, variable])
            self.refused([2, 1, variable] + ONE)


class Operations(ValueCase):
    def of_two(self, operation, first, second, expected):
        """The two as numbers, and as what variables hold."""
        self.worth([operation, 0, first, 0, second], expected)
        self.worth([operation, 1, 2, 1, 5], expected, [7, 7, first, 7, 7, second, 7, 7])
        self.worth([operation, 0, first, 1, 0], expected, [second] + [7] * 7)
        self.worth([operation, 1, 7, 0, second], expected, [7] * 7 + [first])

    def test_each_of_two(self):
        for operation, results in OF_TWO.items():
            for first, second, expected in results:
                self.of_two(operation, first, second, expected)

    def test_each_within_each(self):
        held = [3, 2, 1, MOST, 0, 65536, HALF, 5]
        for outer in EXPRESSION_SHAPES:
            for slot in slots(outer, "e"):
                for inner in EXPRESSION_SHAPES:
                    for part in ([0, 2], [1, 3], [1, 5]):
                        row = filled_at(outer, slot, filled(inner, [], part), [], [1, 0])
                        self.worth(row, worth(row, held), held)

    def test_past_the_modulus_several_levels_deep(self):
        self.worth([5, 2, 0, HALF, 0, HALF, 0, 1], 1)
        self.worth([3, 2, 0, MOST, 0, 5, 0, 3], 1)
        self.worth([6, 4, 0, 65536, 0, 65536, 0, 0], 1)
        self.worth([4, 2, 0, MOST, 0, 4, 2, 0, MOST, 0, 6], 15)
        self.worth(sums(23, [0, MOST - 20]), 2)
        self.worth(late_sums(23, [0, MOST - 20]), 2)
        self.worth([4, 1, 0] * 23 + [1, 0], 1, [MOST] + [0] * 7)
        self.worth([4, 1, 0] * 22 + [1, 0], MOST, [MOST] + [0] * 7)
        self.worth([4, 1, 0] * 20 + [1, 0], pow(3, 21, MOST + 1), [3] + [0] * 7)


class NotOneExpression(ValueCase):
    def test_an_empty_row(self):
        self.refused([])

    def test_a_number_too_many(self):
        for shape in EXPRESSION_SHAPES:
            for part in (ONE, VARIABLE):
                for number in (0, 1, 7, MOST):
                    self.refused(filled(shape, [], part) + [number])

    def test_each_number_missing_at_the_end(self):
        for shape in EXPRESSION_SHAPES:
            for part in (ONE, VARIABLE):
                row = filled(shape, [], part)
                for count in range(len(row)):
                    self.refused(row[:count])

    def test_a_number_of_an_expression_past_6(self):
        for number in (7, 8, 14, 15, MOST):
            self.refused([number])
            self.refused([number, 0])
            self.refused([number] + ONE + ONE)
            self.refused([2, number, 0] + ONE)
            self.refused([2] + ONE + [number, 0])

    def test_statements_that_are_no_expressions(self):
        for shape in STATEMENT_SHAPES:
            self.refused(filled(shape, wait(), ONE))
            self.refused(filled(shape, NOTHING, VARIABLE))
        self.refused(row_with(160))

    def test_rows_that_are_an_expression_though_no_statement(self):
        self.worth([0, 5], 5)
        self.worth([1, 5], 9, [0, 0, 0, 0, 0, 9, 0, 0])

    def test_levels(self):
        self.worth(sums(23, ONE), 24)
        self.refused(sums(24, ONE))
        self.worth(late_sums(23, VARIABLE), 23)
        self.refused(late_sums(24, VARIABLE))
        self.refused([2] * 200)

    def test_an_operation_at_the_last_level(self):
        for number in range(2, 7):
            operation = [number] + ONE + VARIABLE
            self.worth(sums(22, operation), worth(sums(22, operation), NAUGHTS))
            self.refused(sums(23, operation))
            self.refused(late_sums(23, operation))

    def test_a_deep_second_part(self):
        self.worth([2] + sums(22, ONE) + late_sums(22, ONE), 46)
        self.refused([2] + sums(22, ONE) + late_sums(23, ONE))


class Lengths(ValueCase):
    def test_as_many_numbers_as_are_handed_in(self):
        for count in (53, 54, 55, 60, 66, 67):
            row = sum_of([[0, part] for part in range(count)])
            self.assertEqual(len(row), 3 * count - 1)
            self.worth(row, sum(range(count)))
            row = sum_of([[1, part % 8] for part in range(count)])
            self.worth(row, count * 3, [3] * 8)
        self.assertEqual(len(sum_of([ONE] * 54)), 161)
        self.assertEqual(len(sum_of([ONE] * 67)), 200)

    def test_long_rows_that_are_none(self):
        for count in (54, 60, 66):
            row = sum_of([ONE] * count)
            self.refused(row + [0])
            self.refused(row[:-1])
            self.refused(row[:-2] + [1, 8])
        self.refused(sum_of([ONE] * 67)[:-1])


class Variables(ValueCase):
    def test_how_many_there_are(self):
        for count in range(11):
            for row in (ONE, VARIABLE, [2] + VARIABLE + ONE):
                if count == 8:
                    self.worth(row, worth(row, [5] * 8), [5] * 8)
                else:
                    self.refused(row, [5] * count)
                    self.refused(row, [MOST] * count)

    def test_that_are_not_eight_beside_what_is_no_expression(self):
        for count in (0, 7, 8, 9, 10):
            for row in ([], [7], [0], [1, 8], ONE + [0], sums(24, ONE), wait()):
                self.refused(row, [5] * count)

    def test_that_hold_the_least_and_the_most(self):
        self.worth([2, 1, 0, 1, 7], 0, [0] * 8)
        self.worth([2, 1, 0, 1, 7], MOST - 1, [MOST] * 8)
        self.worth([4, 1, 0, 1, 7], 1, [MOST] * 8)
        self.worth([3, 1, 0, 1, 7], 0, [0] * 7 + [MOST])
        self.worth([3, 1, 7, 1, 0], MOST, [0] * 7 + [MOST])
        self.worth([5, 1, 0, 1, 7], 1, [0] * 7 + [MOST])
        self.worth([6, 1, 0, 1, 7], 0, [0] * 7 + [MOST])


def is_one_expression(row):
    """Whether the row is one expression, by the shapes: the place behind the first one there is its end."""

    def end_of(place, level):
        if place + 1 >= len(row) or level > 24 or row[place] > 6 or (row[place] == 1 and row[place + 1] > 7):
            return len(row) + 1
        if row[place] < 2:
            return place + 2
        return end_of(end_of(place + 1, level + 1), level + 1)

    return end_of(0, 1) == len(row)


class ManyRows(ValueCase):
    def test_expressions_are_worth_the_same_as_by_the_shapes(self):
        for row in some_expressions():
            for variables in HELD:
                self.assertEqual(value(row, variables), [0, worth(row, variables)], row)

    def test_what_is_nearly_an_expression(self):
        seen = 0
        for index, row in enumerate(some_expressions()):
            place = index % len(row)
            for other in (row[:place], row[:place] + [index % 9] + row[place + 1:], row[place + 1:], row + row[:place]):
                whole = is_one_expression(other)
                seen += whole
                expected = [0, worth(other, HELD[3])] if whole else REFUSED
                self.assertEqual(value(other, HELD[3]), expected, other)
        self.assertGreater(seen, 500)

    def test_rows_of_statements(self):
        for row in some_rows():
            expected = [0, worth(row, HELD[3])] if is_one_expression(row) else REFUSED
            self.assertEqual(value(row, HELD[3]), expected, row)


class Tidied(ValueCase):
    def test_where_tidy_makes_it_a_number_value_answers_this(self):
        seen = 0
        for row in some_expressions():
            tidied = tidy([3] + row)[2:]
            if len(tidied) == 2 and tidied[0] == 0:
                seen += len(row) > 2
                for variables in HELD:
                    self.assertEqual(value(row, variables), [0, tidied[1]], row)
        self.assertGreater(seen, 500)

    def test_it_is_worth_the_same_tidied_and_not(self):
        seen = 0
        for row in some_expressions():
            if len(row) < 160:
                tidied = tidy([3] + row)[2:]
                seen += tidied != row
                for variables in HELD:
                    self.assertEqual(value(tidied, variables), value(row, variables), row)
        self.assertGreater(seen, 500)


class Calls(CallChecks, unittest.TestCase):
    CASES = [
        ([], []),
        ([], [5] * 8),
        ([0, 5], [5] * 7),
        ([0, 5], [5] * 8),
        ([1, 5], [MOST] * 10),
        ([1, 5], [1, 2, 3, 4, 5, 6, 7, 8]),
        ([5] + ONE + VARIABLE, [5] * 8),
        ([6] + ONE + VARIABLE, [1] * 8),
        (sums(23, VARIABLE), [MOST] * 8),
        (sums(24, VARIABLE), [MOST] * 8),
        (sum_of([VARIABLE] * 67), [MOST] * 8),
        (deals(23, NOTHING), [0] * 8),
    ]
    call = staticmethod(value)

    def numbers_behind(self, first):
        return 1

    def test_the_first_number_of_an_answer_is_0(self):
        self.assertEqual({value(*case)[0] for case in self.CASES}, {-22, 0})

    def test_no_deep_calls(self):
        rows = [[number] * 200 for number in (1, 2, 6, 13)] + [sums(23, ONE), sum_of([ONE] * 67)]
        answers = shallow_answers(value, [(row, [0] * 8) for row in rows])
        self.assertEqual(answers, [REFUSED] * 4 + [[0, 24], [0, 67]])


if __name__ == "__main__":
    unittest.main()
