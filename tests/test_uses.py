"""Tests of uses: points 1 and 3 of the document, and what stands ahead of them."""

import unittest

from errandtext.sheet import read, uses
from helper import (
    CallChecks,
    EXPRESSION_SHAPES,
    MOST,
    NOTHING,
    ONE,
    STATEMENT_SHAPES,
    TextRefusals,
    VARIABLE,
    catch,
    deals,
    filled,
    filled_at,
    loop,
    one_behind_another,
    row_with,
    shallow_answers,
    slots,
    some_rows,
    sums,
    then,
    tree_by_shapes,
    wait,
)

NO_TEXT = [-22]
NO_WAIT = [-33]
NONE = [0, 0, 0, 0, 0, 0, 0]

# Each statement with numbers of its own, and what it uses by itself; the two tables have no number in common.
EACH = [
    ([0], NONE),
    ([1, 2, "e"], [0, 0, 0, 0, 0, 0, 4]),
    ([2, 3, "e", 1, 6], [0, 8, 32, 0, 0, 0, 2]),
    ([3, "e"], NONE),
    ([4, 2, 5], [0, 0, 0, 4, 0, 0, 32]),
    ([5, "e", 3, "e"], [0, 0, 0, 0, 8, 0, 0]),
    ([6, "e"], NONE),
    ([7, "s", "s"], NONE),
    ([8, "e", "s", "s"], NONE),
    ([9, "e", "s"], NONE),
    ([10, "s", "s"], NONE),
    ([11, "e", "s", "s"], NONE),
    ([12, 4, "s", "s"], [0, 0, 0, 0, 0, 0, 16]),
    ([13, "s"], NONE),
    ([14, 6, "s", "s"], [0, 0, 0, 0, 0, 64, 0]),
]
OTHERS = [
    ([0], NONE),
    ([1, 0, "e"], [0, 0, 0, 0, 0, 0, 1]),
    ([2, 1, "e", 3, 8], [0, 2, 128, 0, 0, 0, 8]),
    ([3, "e"], NONE),
    ([4, 1, 6], [0, 0, 0, 2, 0, 0, 64]),
    ([5, "e", 0, "e"], [0, 0, 0, 0, 1, 0, 0]),
    ([6, "e"], NONE),
    ([7, "s", "s"], NONE),
    ([8, "e", "s", "s"], NONE),
    ([9, "e", "s"], NONE),
    ([10, "s", "s"], NONE),
    ([11, "e", "s", "s"], NONE),
    ([12, 7, "s", "s"], [0, 0, 0, 0, 0, 0, 128]),
    ([13, "s"], NONE),
    ([14, 5, "s", "s"], [0, 0, 0, 0, 0, 32, 0]),
]


def put(variable):
    return [1, variable] + ONE


def step(work, variable, back):
    return [2, work] + ONE + [variable, back]


def hear(kind, variable):
    return [4, kind, variable]


def tell(kind):
    return [5] + ONE + [kind] + ONE


def change(number, first, second):
    return [14, number] + first + second


def together(first, second):
    return [one | other for one, other in zip(first, second)]


class UsesCase(unittest.TestCase):
    def answers(self, row, expected):
        with self.subTest(row=row):
            self.assertEqual(uses(list(row)), expected)


class EachAlone(UsesCase):
    def test_each_statement(self):
        for shape, expected in EACH + OTHERS:
            self.answers(filled(shape, wait(), ONE), expected)

    def test_a_text_that_uses_nothing(self):
        self.answers([0], NONE)
        self.answers(wait(), NONE)
        self.answers([6] + ONE, NONE)
        self.answers(then([10] + NOTHING + wait(), [8] + VARIABLE + [13, 0] + loop([11] + ONE + wait() + NOTHING)), NONE)


class WithinOneAnother(UsesCase):
    def test_each_statement_in_each_slot_of_each(self):
        for outer, outer_uses in EACH:
            for slot in slots(outer, "s"):
                for inner, inner_uses in OTHERS:
                    row = filled_at(outer, slot, filled(inner, wait(), ONE), wait(), ONE)
                    if outer[0] == 9 and inner[0] in (0, 1, 5, 9):
                        self.answers(row, NO_WAIT)
                    else:
                        self.answers(row, together(outer_uses, inner_uses))

    def test_each_slot_of_each_statement_two_levels_down(self):
        for outer, outer_uses in EACH:
            for slot in slots(outer, "s"):
                for inner, inner_uses in OTHERS:
                    row = filled_at(outer, slot, then(wait(), filled(inner, wait(), ONE)), wait(), ONE)
                    self.answers(row, together(outer_uses, inner_uses))

    def test_both_parts_count(self):
        for shape in STATEMENT_SHAPES:
            if len(slots(shape, "s")) == 2:
                first, second = slots(shape, "s")
                row = filled(shape[:first], [], ONE) + step(1, 2, 3) + filled(shape[first + 1:second], [], ONE) + tell(2)
                expected = [0, 2, 4, 0, 4, 0, 4]
                if shape[0] == 12:
                    expected[6] |= 128
                if shape[0] == 14:
                    expected[5] |= 128
                self.answers(row, expected)

    def test_what_is_never_done_counts_too(self):
        self.answers(then([6] + ONE, step(0, 1, 1)), [0, 1, 1, 0, 0, 0, 2])
        self.answers([8, 0, 0] + step(0, 1, 1) + tell(3), [0, 1, 1, 0, 8, 0, 2])
        self.answers([8, 0, 1] + step(0, 1, 1) + tell(3), [0, 1, 1, 0, 8, 0, 2])
        self.answers([9, 0, 0] + hear(1, 2), [0, 0, 0, 2, 0, 0, 4])
        self.answers(catch(NOTHING, tell(2)), [0, 0, 0, 0, 4, 0, 1])
        self.answers([1, 3, 1, 3], [0, 0, 0, 0, 0, 0, 8])


class Sets(UsesCase):
    def test_works_asked(self):
        for work in range(8):
            self.answers(step(work, 0, 0), [0, 2 ** work, 0, 0, 0, 0, 1])

    def test_works_that_put_back(self):
        self.answers(step(0, 0, 0), [0, 1, 0, 0, 0, 0, 1])
        for back in range(1, 9):
            self.answers(step(0, 0, back), [0, 1, 2 ** (back - 1), 0, 0, 0, 1])

    def test_a_work_that_is_asked_and_puts_back(self):
        self.answers(step(7, 0, 8), [0, 128, 128, 0, 0, 0, 1])
        self.answers(step(7, 0, 7), [0, 128, 64, 0, 0, 0, 1])
        self.answers(then(step(7, 0, 0), step(0, 0, 8)), [0, 129, 128, 0, 0, 0, 1])

    def test_kinds_heard(self):
        for kind in range(4):
            self.answers(hear(kind, 0), [0, 0, 0, 2 ** kind, 0, 0, 1])

    def test_kinds_told(self):
        for kind in range(4):
            self.answers(tell(kind), [0, 0, 0, 0, 2 ** kind, 0, 0])

    def test_changes(self):
        for number in range(8):
            self.answers(change(number, NOTHING, NOTHING), [0, 0, 0, 0, 0, 2 ** number, 0])

    def test_variables(self):
        for variable in range(8):
            self.answers(put(variable), [0, 0, 0, 0, 0, 0, 2 ** variable])
            self.answers(step(0, variable, 0), [0, 1, 0, 0, 0, 0, 2 ** variable])
            self.answers(hear(0, variable), [0, 0, 0, 1, 0, 0, 2 ** variable])
            self.answers([12, variable, 0, 0], [0, 0, 0, 0, 0, 0, 2 ** variable])

    def test_the_same_more_than_once_counts_once(self):
        for row in (put(3), step(7, 7, 8), step(0, 0, 1), hear(3, 7), tell(3), change(7, [0], [0]), catch([0], [0])):
            once = uses(row)
            for count in (2, 3, 5):
                self.answers(one_behind_another([row] * count), once)

    def test_the_same_variable_put_by_each(self):
        row = one_behind_another([put(5), step(2, 5, 0), hear(1, 5), [12, 5, 0, 0]])
        self.answers(row, [0, 4, 0, 2, 0, 0, 32])

    def test_a_change_in_the_same_change(self):
        self.answers(change(2, change(2, NOTHING, NOTHING), change(2, NOTHING, NOTHING)), [0, 0, 0, 0, 0, 4, 0])

    def test_all_of_a_set(self):
        self.answers(one_behind_another([put(i) for i in range(8)]), [0, 0, 0, 0, 0, 0, 255])
        self.answers(one_behind_another([step(i, 0, 0) for i in range(8)]), [0, 255, 0, 0, 0, 0, 1])
        self.answers(one_behind_another([step(0, 0, i) for i in range(9)]), [0, 1, 255, 0, 0, 0, 1])
        self.answers(one_behind_another([step(0, i, 0) for i in range(8)]), [0, 1, 0, 0, 0, 0, 255])
        self.answers(one_behind_another([hear(i, 0) for i in range(4)]), [0, 0, 0, 15, 0, 0, 1])
        self.answers(one_behind_another([hear(0, i) for i in range(8)]), [0, 0, 0, 1, 0, 0, 255])
        self.answers(one_behind_another([tell(i) for i in range(4)]), [0, 0, 0, 0, 15, 0, 0])
        self.answers(one_behind_another([change(i, [0], [0]) for i in range(8)]), [0, 0, 0, 0, 0, 255, 0])
        self.answers(one_behind_another([[12, i, 0, 0] for i in range(8)]), [0, 0, 0, 0, 0, 0, 255])

    def test_all_of_all_sets(self):
        rows = [step(i, 7 - i, i + 1) for i in range(8)]
        rows += [hear(i, 0) for i in range(4)] + [tell(i) for i in range(4)]
        rows += [change(i, NOTHING, NOTHING) for i in range(8)]
        row = one_behind_another(rows)
        self.assertLessEqual(len(row), 160)
        self.answers(row, [0, 255, 255, 15, 15, 255, 255])
        self.answers(one_behind_another(rows[::-1]), [0, 255, 255, 15, 15, 255, 255])


class Expressions(UsesCase):
    def test_a_variable_that_only_an_expression_names(self):
        for variable in range(8):
            for shape, expected in EACH:
                self.answers(filled(shape, [3, 1, variable], [1, variable]), expected)
            for shape in EXPRESSION_SHAPES[2:]:
                self.answers([3] + filled(shape, [], [1, variable]), NONE)

    def test_the_numbers_of_an_expression_are_no_statements(self):
        # These rows of numbers would put, ask, hear and tell if statements stood there.
        for expression in ([1, 4], [2, 1, 3, 0, 2], [4, 1, 2, 1, 3], [5, 0, 1, 0, 1], [0, 14], [0, MOST]):
            for shape, expected in EACH:
                self.answers(filled(shape, wait(), expression), expected)

    def test_the_errand_that_is_told_is_no_kind(self):
        self.answers([5, 0, 3, 1, 0, 2], [0, 0, 0, 0, 2, 0, 0])
        self.answers([5, 1, 3, 0, 1, 2], [0, 0, 0, 0, 1, 0, 0])


class Refusals(TextRefusals, UsesCase):
    call = staticmethod(uses)

    def test_lengths(self):
        self.answers(then(row_with(156), hear(3, 7)), [0, 0, 0, 8, 0, 0, 129])
        self.answers(then(row_with(157), hear(3, 7)), NO_TEXT)
        self.answers(row_with(160), [0, 0, 0, 0, 0, 0, 1])

    def test_levels(self):
        self.answers(deals(23, hear(3, 7)), [0, 0, 0, 8, 0, 0, 128])
        self.answers(deals(24, hear(3, 7)), NO_TEXT)
        self.answers(deals(22, step(7, 6, 8)), [0, 128, 128, 0, 0, 0, 64])
        self.answers(deals(23, step(7, 6, 8)), NO_TEXT)
        self.answers([1, 4] + sums(22, ONE), [0, 0, 0, 0, 0, 0, 16])
        self.answers([1, 4] + sums(23, ONE), NO_TEXT)

    def test_a_loop_that_does_not_wait(self):
        self.answers(loop(NOTHING), NO_WAIT)
        self.answers(loop(put(1)), NO_WAIT)
        self.answers(loop(tell(1)), NO_WAIT)
        self.answers(loop(loop(wait())), NO_WAIT)
        self.answers(loop(catch([6] + ONE, NOTHING)), NO_WAIT)
        self.answers(then(step(1, 1, 1), loop(NOTHING)), NO_WAIT)
        self.answers([9, 0, 0, 0], NO_WAIT)

    def test_a_loop_that_waits(self):
        self.answers(loop(step(1, 2, 3)), [0, 2, 4, 0, 0, 0, 4])
        self.answers(loop(hear(1, 2)), [0, 0, 0, 2, 0, 0, 4])
        self.answers(loop(catch(wait(), put(1))), [0, 0, 0, 0, 0, 0, 3])
        self.answers(loop([6] + ONE), NONE)


# For each statement's number, which of the six sets its parts lie in, by their index in the tree.
PLACES = {
    1: {1: 5},
    2: {1: 0, 3: 5, 4: 1},
    4: {1: 2, 2: 5},
    5: {2: 3},
    12: {1: 5},
    14: {1: 4},
}


def members_by_shapes(tree, sets):
    """Puts into each of the six sets what the statement of this tree uses."""
    for index, piece in enumerate(STATEMENT_SHAPES[tree[0]]):
        place = PLACES.get(tree[0], {}).get(index)
        if piece == "s":
            members_by_shapes(tree[index], sets)
        elif place is not None:
            sets[place].add(tree[index])
    return sets


def uses_by_shapes(row):
    sets = members_by_shapes(tree_by_shapes(row), [set() for place in range(6)])
    sets[1] = {back - 1 for back in sets[1] if back != 0}
    return [0] + [sum(2 ** member for member in members) for members in sets]


class ManyRows(unittest.TestCase):
    def test_the_same_as_by_the_shapes(self):
        seen = 0
        for row in some_rows():
            refusal = read(row)
            if refusal[0] < 0:
                self.assertEqual(uses(row), refusal, row)
            else:
                seen += 1
                self.assertEqual(uses(row), uses_by_shapes(row), row)
        self.assertGreater(seen, 500)


class Calls(CallChecks, unittest.TestCase):
    ROWS = (
        [],
        [0],
        [0, 0],
        loop(NOTHING),
        loop(wait()),
        step(7, 6, 5),
        then(hear(3, 7), change(1, tell(2), put(3))),
        row_with(160),
        row_with(200),
        deals(23, NOTHING),
    )
    CASES = [(row,) for row in ROWS]
    call = staticmethod(uses)

    def numbers_behind(self, first):
        return 6

    def test_no_deep_calls(self):
        rows = [[number] * 200 for number in (2, 7, 9, 13)] + [[3] + sums(22, ONE), deals(22, loop(hear(0, 0)))]
        answers = shallow_answers(uses, [(row,) for row in rows])
        self.assertEqual(answers, [NO_TEXT] * 4 + [NONE, [0, 0, 0, 1, 0, 0, 1]])


if __name__ == "__main__":
    unittest.main()
