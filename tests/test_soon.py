"""Tests of soon: points 1 and 3 of the document, and what stands ahead of them."""

import unittest

from errandtext.sheet import read, soon
from helper import (
    AT_ONCE_OF_TWO,
    CallChecks,
    FRONTS,
    MOST,
    NOTHING,
    ONE,
    PLAIN,
    TextRefusals,
    VARIABLE,
    catch,
    deals,
    loop,
    row_with,
    shallow_answers,
    some_rows,
    sums,
    then,
    tree_by_shapes,
    wait,
)

NO_TEXT = [-22]
NO_WAIT = [-33]
NEITHER = [0]
ENDS = [1]
FAILS = [2]
EITHER = [3]

ANSWERS = {"-": NEITHER, "w": ENDS, "f": FAILS, "b": EITHER}

FAIL = [6] + ONE
PUT = [1, 2] + ONE
STEP = [2, 3] + ONE + [1, 4]
HEAR = [4, 3, 7]
TELL = [5] + ONE + [2] + VARIABLE

# Several statements for each of what one may do at once: - neither, w end well, f fail, b both.
MANY = {
    "-": [STEP, wait(), HEAR, then(NOTHING, wait()), then(wait(), FAIL), catch(wait(), NOTHING), catch(FAIL, HEAR)],
    "w": [NOTHING, PUT, TELL, loop(wait()), then(PUT, TELL), catch(PUT, FAIL), catch(FAIL, PUT), deals(2, NOTHING)],
    "f": [FAIL, then(FAIL, wait()), then(TELL, FAIL), catch(FAIL, FAIL), [10] + FAIL + wait(), deals(2, FAIL)],
    "b": [PLAIN["b"], loop(FAIL), [14, 0] + FAIL + PUT, then(NOTHING, loop(FAIL)), catch(loop(FAIL), FAIL)],
}


class SoonCase(unittest.TestCase):
    def answers(self, row, expected):
        with self.subTest(row=row):
            self.assertEqual(soon(list(row)), expected)


class WithoutInner(SoonCase):
    def test_each(self):
        self.answers([0], ENDS)
        self.answers([1, 0] + ONE, ENDS)
        self.answers([2, 0] + ONE + [0, 0], NEITHER)
        self.answers([2, 7] + ONE + [7, 8], NEITHER)
        self.answers([3] + ONE, NEITHER)
        self.answers([4, 0, 0], NEITHER)
        self.answers([5] + ONE + [0] + ONE, ENDS)
        self.answers([6] + ONE, FAILS)

    def test_an_expression_changes_nothing(self):
        for expression in ([0, 0], [0, 1], [0, MOST], [1, 7], [3, 1, 0, 1, 0], [6, 0, 1, 0, 2]):
            self.answers([1, 0] + expression, ENDS)
            self.answers([2, 0] + expression + [0, 0], NEITHER)
            self.answers([3] + expression, NEITHER)
            self.answers([5] + expression + [0] + expression, ENDS)
            self.answers([6] + expression, FAILS)
            self.answers([8] + expression + FAIL + NOTHING, EITHER)
            self.answers([8] + expression + NOTHING + FAIL, EITHER)
            self.answers([9] + expression + FAIL, EITHER)
            self.answers([9] + expression + HEAR, ENDS)
            self.answers([11] + expression + HEAR + FAIL, NEITHER)
            self.answers([11] + expression + FAIL + NOTHING, FAILS)


class TheMany(SoonCase):
    def test_they_do_what_they_are_told_to(self):
        for letter, rows in MANY.items():
            for row in rows:
                self.answers(row, ANSWERS[letter])


class OfTwo(SoonCase):
    def test_plain_ones(self):
        for number, table in AT_ONCE_OF_TWO.items():
            for first, letters in zip("-wfb", table):
                for second, expected in zip("-wfb", letters):
                    self.answers(FRONTS[number] + PLAIN[first] + PLAIN[second], ANSWERS[expected])

    def test_many_ones(self):
        for number, table in AT_ONCE_OF_TWO.items():
            for first, letters in zip("-wfb", table):
                for second, expected in zip("-wfb", letters):
                    for one in MANY[first]:
                        for other in MANY[second]:
                            self.answers(FRONTS[number] + one + other, ANSWERS[expected])

    def test_then(self):
        self.answers(then(NOTHING, NOTHING), ENDS)
        self.answers(then(NOTHING, FAIL), FAILS)
        self.answers(then(NOTHING, wait()), NEITHER)
        self.answers(then(FAIL, NOTHING), FAILS)
        self.answers(then(FAIL, wait()), FAILS)
        self.answers(then(wait(), NOTHING), NEITHER)
        self.answers(then(wait(), FAIL), NEITHER)

    def test_those_whose_parts_may_be_changed_about(self):
        for front in (FRONTS[8], FRONTS[10], FRONTS[14]):
            for first in PLAIN.values():
                for second in PLAIN.values():
                    self.assertEqual(soon(front + first + second), soon(front + second + first))

    def test_those_whose_parts_may_not_be_changed_about(self):
        self.answers(then(wait(), FAIL), NEITHER)
        self.answers(then(FAIL, wait()), FAILS)
        self.answers(catch(wait(), NOTHING), NEITHER)
        self.answers(catch(NOTHING, wait()), ENDS)

    def test_both(self):
        self.answers([10] + NOTHING + wait(), NEITHER)
        self.answers([10] + wait() + NOTHING, NEITHER)
        self.answers([10] + FAIL + wait(), FAILS)
        self.answers([10] + wait() + FAIL, FAILS)
        self.answers([10] + NOTHING + FAIL, FAILS)
        self.answers([10] + FAIL + NOTHING, FAILS)
        self.answers([10] + NOTHING + NOTHING, ENDS)

    def test_within_does_what_its_first_part_may(self):
        for letter, first in PLAIN.items():
            for second in PLAIN.values():
                self.answers([11] + ONE + first + second, ANSWERS[letter])

    def test_a_catch_whose_first_part_waits(self):
        for second in PLAIN.values():
            self.answers(catch(wait(), second), NEITHER)
            self.answers(catch(then(wait(), FAIL), second), NEITHER)

    def test_a_catch_whose_first_part_may_fail(self):
        self.answers(catch(FAIL, NOTHING), ENDS)
        self.answers(catch(FAIL, wait()), NEITHER)
        self.answers(catch(FAIL, FAIL), FAILS)
        self.answers(catch(FAIL, PLAIN["b"]), EITHER)
        self.answers(catch(PLAIN["b"], NOTHING), ENDS)
        self.answers(catch(PLAIN["b"], wait()), ENDS)
        self.answers(catch(PLAIN["b"], FAIL), EITHER)

    def test_a_catch_whose_first_part_ends_well(self):
        for second in PLAIN.values():
            self.answers(catch(NOTHING, second), ENDS)


class OfOne(SoonCase):
    def test_a_deal(self):
        for letter, rows in MANY.items():
            for row in rows:
                self.answers([13] + row, ANSWERS[letter])

    def test_a_deal_in_a_deal(self):
        for letter, row in PLAIN.items():
            for count in (2, 3, 20):
                self.answers(deals(count, row), ANSWERS[letter])

    def test_a_loop_whose_first_part_may_not_fail(self):
        for row in MANY["-"]:
            self.answers(loop(row), ENDS)

    def test_a_loop_whose_first_part_may_fail(self):
        for row in MANY["f"]:
            self.answers(loop(row), EITHER)

    def test_a_loop_whose_first_part_may_end_well(self):
        for row in MANY["w"] + MANY["b"]:
            self.answers(loop(row), NO_WAIT)

    def test_a_loop_that_never_runs(self):
        self.answers([9, 0, 0] + wait(), ENDS)
        self.answers([9, 0, 0] + FAIL, EITHER)
        self.answers([9, 0, 0] + NOTHING, NO_WAIT)


class Refusals(TextRefusals, SoonCase):
    call = staticmethod(soon)

    def test_lengths(self):
        self.answers(row_with(160), ENDS)
        self.answers(then(row_with(156), FAIL), FAILS)
        self.answers(then(row_with(156), wait()), NEITHER)
        self.answers(then(row_with(152), PLAIN["b"]), EITHER)
        self.answers(then(row_with(157), FAIL), NO_TEXT)

    def test_levels(self):
        self.answers(deals(23, NOTHING), ENDS)
        self.answers(deals(24, NOTHING), NO_TEXT)
        self.answers(deals(23, HEAR), NEITHER)
        self.answers(deals(24, HEAR), NO_TEXT)
        self.answers(deals(22, FAIL), FAILS)
        self.answers(deals(23, FAIL), NO_TEXT)
        self.answers(deals(21, loop(FAIL)), EITHER)
        self.answers(deals(22, loop(FAIL)), NO_TEXT)
        self.answers([6] + sums(22, ONE), FAILS)
        self.answers([6] + sums(23, ONE), NO_TEXT)

    def test_a_loop_that_does_not_wait(self):
        for inner in (NOTHING, PUT, TELL, loop(wait()), catch(FAIL, NOTHING), deals(20, NOTHING)):
            self.answers(loop(inner), NO_WAIT)


def outcomes(tree):
    """What may come of a statement at once: of w for an end that is well, and f for a failure, those that may."""
    number = tree[0]
    if number in (0, 1, 5):
        return {"w"}
    if number == 6:
        return {"f"}
    if number in (2, 3, 4):
        return set()
    if number == 9:
        return {"w"} | outcomes(tree[2]) & {"f"}
    if number in (11, 13):
        return outcomes(tree[2] if number == 11 else tree[1])
    first, second = outcomes(tree[-2]), outcomes(tree[-1])
    if number == 7:
        return first & {"f"} | (second if "w" in first else set())
    if number == 12:
        return first & {"w"} | (second if "f" in first else set())
    if number == 10:
        return first & second & {"w"} | (first | second) & {"f"}
    return first | second


class ManyRows(unittest.TestCase):
    def test_the_same_as_by_outcomes(self):
        seen = {0: 0, 1: 0, 2: 0, 3: 0}
        for row in some_rows():
            refusal = read(row)
            if refusal[0] < 0:
                self.assertEqual(soon(row), refusal, row)
            else:
                found = outcomes(tree_by_shapes(row))
                expected = ("w" in found) + 2 * ("f" in found)
                seen[expected] += 1
                self.assertEqual(soon(row), [expected], row)
        self.assertGreater(min(seen.values()), 10)


class Calls(CallChecks, unittest.TestCase):
    ROWS = ([], [0], [0, 0], loop(NOTHING), loop(wait()), loop(FAIL), FAIL, wait(), row_with(160), row_with(200),
            deals(23, NOTHING))
    CASES = [(row,) for row in ROWS]
    call = staticmethod(soon)

    def numbers_behind(self, first):
        return 0

    def test_no_deep_calls(self):
        rows = [[number] * 200 for number in (2, 7, 9, 13)] + [[6] + sums(22, ONE), deals(22, loop(HEAR))]
        answers = shallow_answers(soon, [(row,) for row in rows])
        self.assertEqual(answers, [NO_TEXT] * 4 + [FAILS, ENDS])


if __name__ == "__main__":
    unittest.main()
