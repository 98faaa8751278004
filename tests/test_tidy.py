"""Tests of tidy: points 1 and 3 of the document, c and d of what holds, and what stands ahead of them."""

import collections
import functools
import unittest

from errandtext.sheet import read, soon, tidy, uses
from helper import (
    CallChecks,
    EXPRESSION_SHAPES,
    HELD,
    MOST,
    NOTHING,
    OF_TWO,
    ONE,
    STATEMENT_SHAPES,
    TextRefusals,
    VARIABLE,
    catch,
    deals,
    filled_at,
    late_sums,
    loop,
    one_behind_another,
    row_with,
    shallow_answers,
    slots,
    some_rows,
    some_texts,
    sums,
    then,
    wait,
    worth,
)

NO_TEXT = [-22]
NO_WAIT = [-33]

ZERO = [0, 0]
FAIL = [6] + ONE
HEAR = [4, 3, 7]
TELL = [5] + ONE + [2] + VARIABLE
STEP = [2, 3] + ONE + [1, 4]

# Statements that are neither nothing nor 6 nor a deal, and that stay as they are.
OTHERS = [[1, 2, 1, 3], STEP, wait(), HEAR, TELL, then(HEAR, wait()), loop(HEAR), catch(HEAR, NOTHING)]

# Statements that are nothing once they're tidied.
BECOME_NOTHING = [
    [1, 3, 1, 3],
    then(NOTHING, NOTHING),
    [8] + ZERO + HEAR + NOTHING,
    [9] + ZERO + HEAR,
    [10] + NOTHING + NOTHING,
    [11] + ONE + NOTHING + HEAR,
    catch(NOTHING, HEAR),
    catch([6, 1, 0], NOTHING),
    [13] + NOTHING,
]

# Statements that are FAIL once they're tidied.
BECOME_FAIL = [
    [6, 3, 0, 3, 0, 2],
    then(FAIL, HEAR),
    then(NOTHING, FAIL),
    [8] + ONE + FAIL + HEAR,
    [10] + FAIL + HEAR,
    [11] + VARIABLE + FAIL + HEAR,
    catch([6, 1, 0], FAIL),
    [13] + FAIL,
]

# Expressions that are this number once they're tidied.
BECOME_ONE = [
    [2] + ZERO + ONE,
    [3, 0, 3, 0, 2],
    [4] + ONE + ONE,
    [5] + ZERO + ONE,
    [6, 0, 5, 0, 5],
    [3, 2] + ONE + ONE + ONE,
]
BECOME_ZERO = [
    [2] + ZERO + ZERO,
    [3] + ONE + ONE,
    [4] + ZERO + ONE,
    [5] + ONE + ONE,
    [6] + ZERO + ONE,
    [2, 0, MOST] + ONE,
]


def both(first, second):
    return [10] + first + second


def choice(expression, first, second):
    return [8] + expression + first + second


def within(expression, first, second):
    return [11] + expression + first + second


def change(first, second):
    return [14, 5] + first + second


class TidyCase(unittest.TestCase):
    def answers(self, row, expected):
        with self.subTest(row=row):
            self.assertEqual(tidy(list(row)), expected)

    def becomes(self, row, expected):
        self.answers(row, [len(expected)] + expected)

    def stays(self, row):
        self.becomes(row, row)


class TheLists(TidyCase):
    """What the tests below lean on."""

    def test_those_that_stay(self):
        for row in OTHERS:
            self.stays(row)

    def test_those_that_become_nothing(self):
        for row in BECOME_NOTHING:
            self.becomes(row, NOTHING)

    def test_those_that_become_a_failure(self):
        for row in BECOME_FAIL:
            self.becomes(row, FAIL)

    def test_those_that_become_a_number(self):
        for expression in BECOME_ONE:
            self.becomes([3] + expression, [3, 0, 1])
        for expression in BECOME_ZERO:
            self.becomes([3] + expression, [3, 0, 0])


class Expressions(TidyCase):
    def test_of_two_numbers(self):
        for operation, results in OF_TWO.items():
            for first, second, expected in results:
                self.becomes([3, operation, 0, first, 0, second], [3, 0, expected])

    def test_numbers_and_variables_stay(self):
        for number in (0, 1, 7, 8, MOST):
            self.stays([3, 0, number])
        for variable in range(8):
            self.stays([3, 1, variable])

    def test_with_a_variable_they_stay(self):
        for operation in range(2, 7):
            for number in (0, 1, MOST):
                self.stays([3, operation, 0, number, 1, 0])
                self.stays([3, operation, 1, 0, 0, number])
            self.stays([3, operation, 1, 0, 1, 0])
            self.stays([3, operation, 1, 0, 1, 1])

    def test_parts_that_become_numbers(self):
        for operation, expected in ((2, 2), (3, 0), (4, 1), (5, 0), (6, 1)):
            for first in BECOME_ONE:
                self.becomes([3, operation] + first + ONE, [3, 0, expected])
                self.becomes([3, operation] + ONE + first, [3, 0, expected])
                self.becomes([3, operation] + first + VARIABLE, [3, operation] + ONE + VARIABLE)
                self.becomes([3, operation] + VARIABLE + first, [3, operation] + VARIABLE + ONE)
                for second in BECOME_ONE:
                    self.becomes([3, operation] + first + second, [3, 0, expected])

    def test_sums_and_products_past_the_modulus_several_levels_deep(self):
        half = [0, 2147483648]
        self.becomes([3, 5, 2] + half + half + [0, 1], [3, 0, 1])
        self.becomes([3, 3, 2, 0, MOST, 0, 5, 0, 3], [3, 0, 1])
        self.becomes([3, 6, 4, 0, 65536, 0, 65536, 0, 0], [3, 0, 1])
        self.becomes([3, 4, 2, 0, MOST, 0, 4, 2, 0, MOST, 0, 6], [3, 0, 15])
        self.becomes([3] + sums(22, [0, MOST - 20]), [3, 0, 1])
        self.becomes([3] + late_sums(22, [0, MOST - 20]), [3, 0, 1])
        self.becomes([3] + sums(22, VARIABLE), [3] + sums(22, VARIABLE))
        self.becomes([3] + late_sums(21, [2] + VARIABLE + ONE), [3] + late_sums(21, [2] + VARIABLE + ONE))

    def test_a_number_beside_what_stays(self):
        self.becomes([3, 2, 2] + ONE + ONE + [2] + VARIABLE + [2] + ONE + ONE, [3, 2, 0, 2, 2] + VARIABLE + [0, 2])

    def test_in_each_slot_of_each_statement(self):
        for shape in STATEMENT_SHAPES:
            for slot in slots(shape, "e"):
                # These parts and a variable keep each statement from being tidied by a rule of its own.
                row = filled_at(shape, slot, [2] + VARIABLE + [4, 0, 3, 0, 5], HEAR, VARIABLE)
                tidied = filled_at(shape, slot, [2] + VARIABLE + [0, 15], HEAR, VARIABLE)
                if shape[0] == 8:
                    row[-1] = tidied[-1] = 6
                self.becomes(row, tidied)


class Plain(TidyCase):
    """0 and 2 to 6, which are tidied in their expressions alone."""

    def test_nothing(self):
        self.stays(NOTHING)

    def test_they_stay(self):
        for expression in (ZERO, ONE, VARIABLE, [2] + VARIABLE + ONE):
            self.stays([2, 0] + expression + [0, 0])
            self.stays([2, 7] + expression + [7, 8])
            self.stays([3] + expression)
            self.stays([5] + expression + [0] + expression)
            self.stays([5] + expression + [3] + VARIABLE)
            self.stays([6] + expression)
        self.stays([4, 0, 0])
        self.stays([4, 3, 7])

    def test_their_expressions_are_tidied(self):
        for expression in BECOME_ONE:
            self.becomes([2, 3] + expression + [4, 5], [2, 3] + ONE + [4, 5])
            self.becomes([3] + expression, [3] + ONE)
            self.becomes([5] + expression + [2] + VARIABLE, [5] + ONE + [2] + VARIABLE)
            self.becomes([5] + VARIABLE + [2] + expression, [5] + VARIABLE + [2] + ONE)
            self.becomes([5] + expression + [2] + expression, [5] + ONE + [2] + ONE)
            self.becomes([6] + expression, [6] + ONE)

    def test_a_step_whose_answer_goes_into_what_it_was_asked_of(self):
        self.stays([2, 0, 1, 3, 3, 0])
        self.stays([5, 1, 3, 3, 1, 3])


class Put(TidyCase):
    def test_the_variable_itself(self):
        for variable in range(8):
            self.becomes([1, variable, 1, variable], NOTHING)

    def test_another_variable(self):
        for variable in range(8):
            for other in range(8):
                if other != variable:
                    self.stays([1, variable, 1, other])

    def test_a_number(self):
        for variable in range(8):
            self.stays([1, variable, 0, variable])
            self.becomes([1, variable, 2, 0, 0, 0, variable], [1, variable, 0, variable])

    def test_an_expression_with_the_variable_in_it(self):
        for operation in range(2, 7):
            self.stays([1, 3, operation, 1, 3, 0, 0])
            self.stays([1, 3, operation, 0, 0, 1, 3])
            self.stays([1, 3, operation, 1, 3, 1, 3])

    def test_an_expression_that_becomes_a_number(self):
        for expression in BECOME_ONE:
            self.becomes([1, 3] + expression, [1, 3] + ONE)
            self.becomes([1, 1] + expression, [1, 1] + ONE)

    def test_one_that_a_choice_leaves(self):
        self.becomes(choice(BECOME_ONE[0], [1, 3, 1, 3], HEAR), NOTHING)
        self.becomes(choice(BECOME_ZERO[0], HEAR, [1, 3, 1, 3]), NOTHING)


class Pair(TidyCase):
    """7 and 10."""

    def pairs(self, first, second, expected):
        self.becomes(then(first, second), expected)
        self.becomes(both(first, second), expected)

    def pair_stays(self, first, second):
        self.stays(then(first, second))
        self.stays(both(first, second))

    def test_nothing_first(self):
        for second in OTHERS + [FAIL, [13] + HEAR]:
            self.pairs(NOTHING, second, second)

    def test_a_failure_first(self):
        for second in OTHERS + [FAIL, [6] + VARIABLE, [13] + HEAR]:
            self.pairs(FAIL, second, FAIL)
            self.pairs([6] + VARIABLE, second, [6] + VARIABLE)

    def test_nothing_behind(self):
        for first in OTHERS + [[13] + HEAR]:
            self.pairs(first, NOTHING, first)

    def test_nothing_twice(self):
        self.pairs(NOTHING, NOTHING, NOTHING)

    def test_a_failure_and_nothing(self):
        self.pairs(FAIL, NOTHING, FAIL)
        self.pairs(NOTHING, FAIL, FAIL)

    def test_neither(self):
        for first in OTHERS + [[13] + HEAR]:
            for second in OTHERS + [FAIL, [13] + HEAR]:
                self.pair_stays(first, second)

    def test_alike_ones_stay(self):
        self.pair_stays(HEAR, HEAR)

    def test_first_parts_that_become_nothing(self):
        for first in BECOME_NOTHING:
            for second in OTHERS:
                self.pairs(first, second, second)
            for second in BECOME_NOTHING:
                self.pairs(first, second, NOTHING)
            for second in BECOME_FAIL:
                self.pairs(first, second, FAIL)

    def test_first_parts_that_become_a_failure(self):
        for first in BECOME_FAIL:
            for second in OTHERS + BECOME_NOTHING + BECOME_FAIL:
                self.pairs(first, second, FAIL)

    def test_second_parts_that_become_nothing(self):
        for first in OTHERS:
            for second in BECOME_NOTHING:
                self.pairs(first, second, first)


class Choice(TidyCase):
    def test_the_number_0(self):
        for first in OTHERS + [NOTHING, FAIL]:
            for second in OTHERS + [NOTHING, FAIL]:
                self.becomes(choice(ZERO, first, second), second)

    def test_another_number(self):
        for number in (1, 2, 7, MOST):
            for first in OTHERS + [NOTHING, FAIL]:
                for second in (HEAR, NOTHING, FAIL):
                    self.becomes(choice([0, number], first, second), first)

    def test_an_expression_that_becomes_a_number(self):
        for expression in BECOME_ZERO:
            self.becomes(choice(expression, HEAR, STEP), STEP)
        for expression in BECOME_ONE:
            self.becomes(choice(expression, HEAR, STEP), HEAR)

    def test_what_is_left_is_tidied(self):
        self.becomes(choice(ZERO, HEAR, then(NOTHING, STEP)), STEP)
        self.becomes(choice(ONE, then(NOTHING, STEP), HEAR), STEP)

    def test_alike_parts(self):
        for row in OTHERS + [NOTHING, FAIL, [13] + HEAR]:
            for expression in (VARIABLE, [2] + VARIABLE + ONE, [6] + VARIABLE + VARIABLE):
                self.becomes(choice(expression, row, row), row)

    def test_parts_that_are_alike_once_they_are_tidied(self):
        for row in OTHERS + [NOTHING, FAIL]:
            self.becomes(choice(VARIABLE, row, then(NOTHING, row)), row)
            self.becomes(choice(VARIABLE, then(row, NOTHING), row), row)
            self.becomes(choice(VARIABLE, choice(ZERO, HEAR, row), choice(ONE, row, HEAR)), row)
        for first in BECOME_NOTHING:
            for second in BECOME_NOTHING:
                self.becomes(choice(VARIABLE, first, second), NOTHING)
        self.becomes(choice(VARIABLE, [3, 2] + ONE + ONE, [3, 0, 2]), [3, 0, 2])

    def test_parts_that_are_not_alike(self):
        for expression in (VARIABLE, [3] + VARIABLE + ONE):
            for index, first in enumerate(OTHERS):
                for second in OTHERS[:index] + OTHERS[index + 1:] + [NOTHING, FAIL]:
                    self.stays(choice(expression, first, second))
        self.stays(choice(VARIABLE, NOTHING, FAIL))
        self.stays(choice(VARIABLE, FAIL, NOTHING))
        self.stays(choice(VARIABLE, FAIL, [6, 0, 2]))
        self.stays(choice(VARIABLE, [4, 0, 1], [4, 1, 0]))
        self.stays(choice(VARIABLE, then(HEAR, wait()), both(HEAR, wait())))

    def test_not_alike_and_tidied_in_its_parts(self):
        self.becomes(choice([2] + VARIABLE + BECOME_ONE[0], then(NOTHING, HEAR), BECOME_NOTHING[0]),
                     choice([2] + VARIABLE + ONE, HEAR, NOTHING))


class Loop(TidyCase):
    def test_the_number_0(self):
        for inner in (HEAR, wait(), STEP, FAIL, then(TELL, HEAR)):
            self.becomes([9] + ZERO + inner, NOTHING)

    def test_an_expression_that_becomes_0(self):
        for expression in BECOME_ZERO:
            self.becomes([9] + expression + HEAR, NOTHING)

    def test_another_number(self):
        for number in (1, 2, MOST):
            for inner in (HEAR, wait(), STEP, FAIL):
                self.stays([9, 0, number] + inner)
        for expression in BECOME_ONE:
            self.becomes([9] + expression + HEAR, [9] + ONE + HEAR)

    def test_a_variable(self):
        for variable in range(8):
            for inner in (HEAR, wait(), STEP, FAIL):
                self.stays([9, 1, variable] + inner)

    def test_what_is_in_it_is_tidied(self):
        self.becomes(loop(then(HEAR, NOTHING)), loop(HEAR))
        self.becomes(loop([13] + FAIL), loop(FAIL))
        self.becomes(loop(catch(FAIL, HEAR)), loop(then([1, 0] + ONE, HEAR)))

    def test_one_that_never_runs_and_does_not_wait_is_refused(self):
        self.answers([9] + ZERO + NOTHING, NO_WAIT)


class Within(TidyCase):
    def test_nothing(self):
        for expression in (ZERO, ONE, VARIABLE):
            for second in OTHERS + [NOTHING, FAIL]:
                self.becomes(within(expression, NOTHING, second), NOTHING)

    def test_a_failure(self):
        for expression in (ZERO, ONE, VARIABLE):
            for second in OTHERS + [NOTHING, [6, 0, 9]]:
                self.becomes(within(expression, FAIL, second), FAIL)

    def test_first_parts_that_become_nothing_or_a_failure(self):
        for first in BECOME_NOTHING:
            self.becomes(within(ONE, first, HEAR), NOTHING)
        for first in BECOME_FAIL:
            self.becomes(within(ONE, first, HEAR), FAIL)

    def test_else_it_stays(self):
        for expression in (ZERO, ONE, VARIABLE):
            for first in OTHERS + [[13] + HEAR]:
                for second in OTHERS + [NOTHING, FAIL, first]:
                    self.stays(within(expression, first, second))

    def test_its_parts_are_tidied(self):
        self.becomes(within(BECOME_ONE[0], then(NOTHING, HEAR), BECOME_NOTHING[0]), within(ONE, HEAR, NOTHING))


class Catch(TidyCase):
    def test_nothing(self):
        for second in OTHERS + [NOTHING, FAIL]:
            self.becomes(catch(NOTHING, second), NOTHING)
        for first in BECOME_NOTHING:
            self.becomes(catch(first, HEAR), NOTHING)

    def test_a_failure_with_the_variable_itself(self):
        for variable in range(8):
            for second in OTHERS + [NOTHING, FAIL, [13] + HEAR]:
                self.becomes([12, variable, 6, 1, variable] + second, second)

    def test_a_failure_with_else_and_nothing_behind(self):
        for expression in (ZERO, ONE, [1, 1], [2] + VARIABLE + ONE, [2] + VARIABLE + VARIABLE):
            self.becomes(catch([6] + expression, NOTHING), [1, 0] + expression)
            for second in BECOME_NOTHING:
                self.becomes(catch([6] + expression, second), [1, 0] + expression)

    def test_a_failure_with_else_and_something_behind(self):
        for expression in (ZERO, ONE, [1, 1], [2] + VARIABLE + ONE, [2] + VARIABLE + VARIABLE):
            for second in OTHERS + [FAIL, [13] + HEAR]:
                self.becomes(catch([6] + expression, second), then([1, 0] + expression, second))

    def test_each_variable(self):
        for variable in range(8):
            self.becomes([12, variable] + FAIL + HEAR, [7, 1, variable] + ONE + HEAR)
            other = (variable + 1) % 8
            self.becomes([12, variable, 6, 1, other] + HEAR, [7, 1, variable, 1, other] + HEAR)
            self.becomes([12, variable, 6, 0, variable] + HEAR, [7, 1, variable, 0, variable] + HEAR)

    def test_first_parts_that_become_a_failure(self):
        for first in BECOME_FAIL:
            self.becomes(catch(first, NOTHING), [1, 0] + ONE)
            self.becomes(catch(first, HEAR), then([1, 0] + ONE, HEAR))
            for second in BECOME_NOTHING:
                self.becomes(catch(first, second), [1, 0] + ONE)

    def test_else_it_stays(self):
        for first in OTHERS + [[13] + HEAR]:
            for second in OTHERS + [NOTHING, FAIL, first]:
                self.stays(catch(first, second))

    def test_its_parts_are_tidied(self):
        self.becomes(catch(then(NOTHING, HEAR), then(NOTHING, STEP)), catch(HEAR, STEP))

    def test_what_it_leaves_makes_what_holds_it_be_tidied(self):
        self.becomes(then(catch([6] + VARIABLE, NOTHING), HEAR), HEAR)
        self.becomes([13] + catch([6] + VARIABLE, FAIL), FAIL)
        self.becomes(catch(catch([6] + VARIABLE, FAIL), HEAR), then([1, 0] + ONE, HEAR))


class Deal(TidyCase):
    def test_nothing(self):
        self.becomes([13] + NOTHING, NOTHING)
        for row in BECOME_NOTHING:
            self.becomes([13] + row, NOTHING)

    def test_a_failure(self):
        self.becomes([13] + FAIL, FAIL)
        self.becomes([13, 6] + VARIABLE, [6] + VARIABLE)
        for row in BECOME_FAIL:
            self.becomes([13] + row, FAIL)

    def test_a_deal(self):
        for row in OTHERS:
            self.becomes([13, 13] + row, [13] + row)

    def test_a_deal_in_a_deal(self):
        for count in (3, 4, 20):
            self.becomes(deals(count, HEAR), [13] + HEAR)
            self.becomes(deals(count, NOTHING), NOTHING)
            self.becomes(deals(count, FAIL), FAIL)

    def test_a_deal_that_only_tidying_brings_there(self):
        self.becomes([13] + then(NOTHING, [13] + HEAR), [13] + HEAR)
        self.becomes([13] + choice(VARIABLE, [13] + HEAR, deals(3, HEAR)), [13] + HEAR)

    def test_else_it_stays(self):
        for row in OTHERS:
            self.stays([13] + row)
        self.stays([13] + then([13] + HEAR, [13] + HEAR))


class Change(TidyCase):
    def test_it_stays_whatever_is_in_it(self):
        rows = OTHERS + [NOTHING, FAIL, [13] + HEAR, change(NOTHING, NOTHING)]
        for number in (0, 7):
            for first in rows:
                for second in rows:
                    self.stays([14, number] + first + second)

    def test_its_parts_are_tidied(self):
        for first in BECOME_NOTHING:
            self.becomes(change(first, HEAR), change(NOTHING, HEAR))
            self.becomes(change(HEAR, first), change(HEAR, NOTHING))
        for first in BECOME_FAIL:
            self.becomes(change(first, first), change(FAIL, FAIL))
        self.becomes(change(deals(2, HEAR), deals(3, HEAR)), change([13] + HEAR, [13] + HEAR))

    def test_what_holds_it_stays(self):
        row = change(NOTHING, NOTHING)
        self.stays([13] + row)
        self.stays(then(row, row))
        self.stays(catch(row, NOTHING))
        self.becomes(then(row, NOTHING), row)


class SeveralLevelsDeep(TidyCase):
    def test_one_behind_another(self):
        for row in OTHERS:
            self.becomes([7, 0] * 20 + row, row)
            self.becomes([7] * 20 + row + [0] * 20, row)
            self.becomes([10, 0] * 20 + row, row)

    def test_a_number_that_decides_all(self):
        # 1 + 1 less 2 is nothing, so the loop never runs, so there is no deal, so nothing can fail.
        never = [9, 3, 2] + ONE + ONE + [0, 2] + HEAR
        self.becomes(never, NOTHING)
        self.becomes([13] + never, NOTHING)
        self.becomes(catch([13] + never, STEP), NOTHING)
        self.becomes(within(VARIABLE, catch([13] + never, STEP), TELL), NOTHING)
        self.becomes(both(within(VARIABLE, catch([13] + never, STEP), TELL), FAIL), FAIL)
        row = catch(both(within(VARIABLE, catch([13] + never, STEP), TELL), [6] + VARIABLE), wait())
        self.becomes(row, wait())
        self.becomes(choice(VARIABLE, row, wait()), wait())
        self.becomes(choice(VARIABLE, row, HEAR), choice(VARIABLE, wait(), HEAR))

    def test_in_each_slot_of_each_statement(self):
        deep = [7, 0, 7, 13, 0, 12, 0, 6, 1, 0] + STEP
        for shape in STATEMENT_SHAPES:
            for slot in slots(shape, "s"):
                self.becomes(filled_at(shape, slot, deep, HEAR, VARIABLE), filled_at(shape, slot, STEP, HEAR, VARIABLE))

    def test_what_is_left_out_may_have_anything_in_it(self):
        self.becomes(then(FAIL, row_with(156)), FAIL)
        self.becomes(choice(ONE, HEAR, row_with(150)), HEAR)
        self.becomes(within(ONE, NOTHING, deals(22, NOTHING)), NOTHING)


class Refusals(TextRefusals, TidyCase):
    call = staticmethod(tidy)

    def test_faults_in_what_would_be_left_out(self):
        self.answers(then(FAIL, [15]), NO_TEXT)
        self.answers(choice(ONE, HEAR, [4, 4, 0]), NO_TEXT)
        self.answers(catch(NOTHING, [1, 8] + ONE), NO_TEXT)
        self.answers([9] + ZERO + deals(23, HEAR), NO_TEXT)
        self.answers(then(FAIL, loop(NOTHING)), NO_WAIT)
        self.answers(choice(ONE, HEAR, loop(NOTHING)), NO_WAIT)
        self.answers(catch(NOTHING, loop(NOTHING)), NO_WAIT)

    def test_lengths(self):
        self.becomes(row_with(159), NOTHING)
        self.becomes(row_with(160), [1, 0] + ONE)

    def test_lengths_of_rows_that_stay(self):
        row = one_behind_another([HEAR] * 39 + [[1, 2, 1, 3]])
        self.assertEqual(len(row), 160)
        self.stays(row)
        row = one_behind_another([HEAR] * 38 + [[1, 2, 1, 3]] * 2)
        self.assertEqual(len(row), 161)
        self.answers(row, NO_TEXT)
        row = one_behind_another([HEAR] * 49 + [[1, 2, 1, 3]])
        self.assertEqual(len(row), 200)
        self.answers(row, NO_TEXT)

    def test_levels(self):
        self.becomes(deals(23, NOTHING), NOTHING)
        self.answers(deals(24, NOTHING), NO_TEXT)
        self.becomes(deals(23, HEAR), [13] + HEAR)
        self.answers(deals(24, HEAR), NO_TEXT)
        self.becomes([3] + sums(22, ONE), [3, 0, 23])
        self.answers([3] + sums(23, ONE), NO_TEXT)

    def test_levels_of_rows_that_stay(self):
        front = [7] + HEAR
        self.stays(front * 22 + wait())
        self.answers(front * 23 + wait(), NO_TEXT)
        self.becomes(front * 21 + catch(FAIL, STEP), front * 21 + then([1, 0] + ONE, STEP))
        self.answers(front * 22 + catch(FAIL, STEP), NO_TEXT)

    def test_a_loop_that_does_not_wait(self):
        for inner in (NOTHING, [1, 2] + ONE, TELL, loop(wait()), catch(FAIL, NOTHING), deals(20, NOTHING)):
            self.answers(loop(inner), NO_WAIT)
            self.answers([13] + loop(inner), NO_WAIT)
            self.answers([9] + ZERO + inner, NO_WAIT)

    def test_a_loop_that_would_wait_once_it_is_tidied(self):
        self.answers(loop(choice(ONE, HEAR, NOTHING)), NO_WAIT)
        self.answers(loop(choice(VARIABLE, HEAR, choice(ONE, HEAR, NOTHING))), NO_WAIT)


# For each statement's number, the rules by which it's tidied, of which the first that fits holds: when it fits, and
# what's left. Both are told of its parts, each a row of numbers that's tidied already.
PAIR_RULES = [
    (lambda a, b: a == [0], lambda a, b: b),
    (lambda a, b: a[0] == 6, lambda a, b: a),
    (lambda a, b: b == [0], lambda a, b: a),
]
STATEMENT_RULES = {
    1: [(lambda v, e: e == [1] + v, lambda v, e: [0])],
    7: PAIR_RULES,
    8: [
        (lambda e, a, b: e == [0, 0], lambda e, a, b: b),
        (lambda e, a, b: e[0] == 0, lambda e, a, b: a),
        (lambda e, a, b: a == b, lambda e, a, b: a),
    ],
    9: [(lambda e, a: e == [0, 0], lambda e, a: [0])],
    10: PAIR_RULES,
    11: [
        (lambda e, a, b: a == [0], lambda e, a, b: [0]),
        (lambda e, a, b: a[0] == 6, lambda e, a, b: a),
    ],
    12: [
        (lambda v, a, b: a == [0], lambda v, a, b: [0]),
        (lambda v, a, b: a == [6, 1] + v, lambda v, a, b: b),
        (lambda v, a, b: a[0] == 6 and b == [0], lambda v, a, b: [1] + v + a[1:]),
        (lambda v, a, b: a[0] == 6, lambda v, a, b: [7, 1] + v + a[1:] + b),
    ],
    13: [
        (lambda a: a == [0], lambda a: [0]),
        (lambda a: a[0] == 6, lambda a: a),
        (lambda a: a[0] == 13, lambda a: a),
    ],
}
EXPRESSION_RULES = {
    number: [(lambda a, b: a[0] == 0 and b[0] == 0, lambda a, b, number=number: [0, worth([number] + a + b)])]
    for number in range(2, 7)
}


def tidied_and_end(row, place, letter, seen):
    """What begins at this place, tidied by the rules above, then the place behind it; seen counts the rules."""
    shapes, rules = {"s": (STATEMENT_SHAPES, STATEMENT_RULES), "e": (EXPRESSION_SHAPES, EXPRESSION_RULES)}[letter]
    number = row[place]
    place += 1
    parts = []
    for piece in shapes[number][1:]:
        if piece in ("s", "e"):
            part, place = tidied_and_end(row, place, piece, seen)
        else:
            part, place = [row[place]], place + 1
        parts.append(part)
    for index, (fits, left) in enumerate(rules.get(number, [])):
        if fits(*parts):
            seen[letter, number, index] += 1
            return left(*parts), place
    seen[letter, number, "stays"] += 1
    return [number] + sum(parts, []), place


@functools.lru_cache(maxsize=None)
def tidied_texts():
    """Each text out of many, and the same tidied."""
    return [(row, tidy(row)[1:]) for row in some_texts() + some_rows() if read(row)[0] > 0]


class ManyTexts(unittest.TestCase):
    def test_the_same_as_by_the_rules(self):
        seen = collections.Counter()
        for row, tidied in tidied_texts():
            self.assertEqual(tidied, tidied_and_end(row, 0, "s", seen)[0], row)
        # Each rule has held often, and so has none where one may.
        for letter, rules in (("s", STATEMENT_RULES), ("e", EXPRESSION_RULES)):
            for number in rules:
                for index in list(range(len(rules[number]))) + ["stays"]:
                    self.assertGreater(seen[letter, number, index], 10, (letter, number, index))

    def test_the_first_number_is_how_many_follow(self):
        for row, tidied in tidied_texts():
            self.assertEqual(tidy(row)[0], len(tidied), row)

    def test_the_refusals_are_those_of_read(self):
        seen = collections.Counter()
        for row in some_texts() + some_rows():
            answer = read(row)
            if answer[0] < 0:
                seen[answer[0]] += 1
                self.assertEqual(tidy(row), answer, row)
        self.assertGreater(min(seen[-22], seen[-33]), 100)

    def test_tidied_it_is_a_text_no_longer_than_before(self):
        for row, tidied in tidied_texts():
            self.assertGreater(read(tidied)[0], 0, row)
            self.assertLessEqual(len(tidied), len(row), row)
            self.assertLessEqual(read(tidied)[1], read(row)[1], row)

    def test_tidied_again_it_is_the_same(self):
        for row, tidied in tidied_texts():
            self.assertEqual(tidy(tidied), [len(tidied)] + tidied, row)

    def test_it_uses_nothing_that_it_did_not_before(self):
        for row, tidied in tidied_texts():
            for before, behind in zip(uses(row), uses(tidied)):
                self.assertEqual(behind & ~before, 0, row)

    def test_it_may_do_nothing_at_once_that_it_could_not_before(self):
        for row, tidied in tidied_texts():
            self.assertEqual(soon(tidied)[0] & ~soon(row)[0], 0, row)

    def test_an_expression_is_worth_the_same(self):
        seen = 0
        for row, tidied in tidied_texts():
            # A wait and a failure are their expression and no more; they're told by one number ahead of it.
            if row[0] in (3, 6):
                seen += tidied != row
                self.assertEqual(tidied[0], row[0])
                for held in HELD:
                    self.assertEqual(worth(tidied[1:], held), worth(row[1:], held), row)
        self.assertGreater(seen, 100)


class Calls(CallChecks, unittest.TestCase):
    ROWS = ([], [0], [0, 0], loop(NOTHING), loop(wait()), then(NOTHING, HEAR), deals(3, HEAR), catch(FAIL, STEP),
            choice(VARIABLE, HEAR, HEAR), [3, 2] + ONE + ONE, [3, 5] + ONE + ONE, [3, 6] + ONE + ONE,
            row_with(160), row_with(200), deals(23, NOTHING))
    CASES = [(row,) for row in ROWS]
    call = staticmethod(tidy)

    def numbers_behind(self, first):
        return first

    def test_no_deep_calls(self):
        rows = [[number] * 200 for number in (2, 7, 9, 13)] + [[3] + sums(22, ONE), deals(22, loop(HEAR))]
        answers = shallow_answers(tidy, [(row,) for row in rows])
        self.assertEqual(answers, [NO_TEXT] * 4 + [[3, 3, 0, 23], [7, 13] + loop(HEAR)])


if __name__ == "__main__":
    unittest.main()
