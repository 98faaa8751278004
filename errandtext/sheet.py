"""Errands' texts: what a row of numbers tells, where it ceases to, what it uses, what it may do at once, how the
same is said in fewer numbers, and what an expression is worth.

A number's place in the row says what it tells; one letter stands for each such thing: s a statement,
e an expression, v a variable, k a work, b by what a step is put back, c a kind, n a change, w a whole number.
A thing is a letter and a level: of a statement and an expression its own, of all else that of what it belongs to.
"""

ONE_STATEMENT = -6
NO_TEXT = -22
NO_EXPRESSION = -22
LOOP_WITHOUT_WAIT = -33

MOST_NUMBERS = 160
MOST_LEVELS = 24
VARIABLE_COUNT = 8

NOTHING = 0
PUT = 1
STEP = 2
WAIT = 3
HEAR = 4
TELL = 5
FAIL = 6
THEN = 7
CHOICE = 8
LOOP = 9
BOTH = 10
WITHIN = 11
CATCH = 12
DEAL = 13
CHANGE = 14

NUMBER = 0
VARIABLE = 1
SUM = 2
DIFFERENCE = 3
PRODUCT = 4
LESS = 5
ALIKE = 6

STATEMENT_PARTS = ("", "ve", "kevb", "e", "cv", "ece", "e", "ss", "ess", "es", "ss", "ess", "vss", "s", "nss")
EXPRESSION_PARTS = ("w", "v", "ee", "ee", "ee", "ee", "ee")

# The first number that is too much for each letter.
BOUNDS = {"s": 15, "e": 7, "v": 8, "k": 8, "b": 9, "c": 4, "n": 8, "w": 4294967296}

# Sums and products are told modulo this.
MODULUS = 4294967296

# What each member of a set counts, from 0 on; works, kinds, changes and variables are all below eight.
COUNTS = (1, 2, 4, 8, 16, 32, 64, 128)


class Row:
    """What the numbers of a row tell, up to the first that can't stand, and whether all of them are one whole thing."""

    def __init__(self, told, whole):
        self.told = told
        self.whole = whole


class AtOnce:
    """What a statement may do before it has waited for anything."""

    def __init__(self, ends, fails):
        self.ends = ends
        self.fails = fails


def has_level(letter):
    return letter in ("s", "e")


def parts_of(letter, number):
    """The letters of what belongs to a number, in order."""
    if letter == "s":
        return STATEMENT_PARTS[number]
    if letter == "e":
        return EXPRESSION_PARTS[number]
    return ""


def things_behind(thing, number):
    """The things that must follow a number, once it tells this thing."""
    level = thing[1]
    return [(letter, level + 1 if has_level(letter) else level) for letter in parts_of(thing[0], number)]


def can_stand(thing, number):
    """Whether a number can tell this thing. One whose parts would lie too deep can't, whatever would follow."""
    if number >= BOUNDS[thing[0]]:
        return False
    return all([behind[1] <= MOST_LEVELS for behind in things_behind(thing, number)])


def row_of(numbers, letter):
    """What these numbers tell, if they are to be one statement or one expression."""
    told = []
    waiting = [(letter, 1)]
    for number in numbers:
        if len(waiting) == 0 or not can_stand(waiting[0], number):
            return Row(told, False)
        told.append(waiting[0])
        waiting = things_behind(waiting[0], number) + waiting[1:]
    return Row(told, len(waiting) == 0)


def tree_of(told, numbers):
    """What is told as a whole, as a tuple: its number, then its parts, the statements and expressions likewise."""
    built = []
    # Backwards, so that a number's parts lie ready when it is reached, the first of them on top.
    for thing, number in reversed(list(zip(told, numbers))):
        parts = [built.pop() for letter in parts_of(thing[0], number)]
        built.append((number,) + tuple(parts) if has_level(thing[0]) else number)
    return built[0]


def numbers_of(tree):
    """A statement or an expression, told again in numbers."""
    row = []
    for part in tree:
        if isinstance(part, tuple):
            row.extend(numbers_of(part))
        else:
            row.append(part)
    return row


def inner_statements(statement):
    letters = STATEMENT_PARTS[statement[0]]
    return [part for letter, part in zip(letters, statement[1:]) if letter == "s"]


def statements_in(statement):
    """The statement itself and all those within it."""
    found = [statement]
    for part in inner_statements(statement):
        found.extend(statements_in(part))
    return found


def at_once(statement):
    number = statement[0]
    if number in (NOTHING, PUT, TELL):
        return AtOnce(True, False)
    if number == FAIL:
        return AtOnce(False, True)
    if number in (STEP, WAIT, HEAR):
        return AtOnce(False, False)
    inner = [at_once(part) for part in inner_statements(statement)]
    if number == LOOP:
        return AtOnce(True, inner[0].fails)
    if number in (WITHIN, DEAL):
        return inner[0]
    return at_once_of_two(number, inner[0], inner[1])


def at_once_of_two(number, first, second):
    """What a statement of this number may do at once, told by what its A and its B may."""
    if number == THEN:
        return AtOnce(first.ends and second.ends, first.fails or (first.ends and second.fails))
    if number == BOTH:
        return AtOnce(first.ends and second.ends, first.fails or second.fails)
    if number == CATCH:
        return AtOnce(first.ends or (first.fails and second.ends), first.fails and second.fails)
    # What is left is CHOICE and CHANGE: either part may be the one that is done.
    return AtOnce(first.ends or second.ends, first.fails or second.fails)


def loops_wait(statement):
    inner = inner_statements(statement)
    if statement[0] == LOOP and at_once(inner[0]).ends:
        return False
    return all([loops_wait(part) for part in inner])


def refusal_of(row, text):
    """The refusal that is due first, or 0 where the row is a text."""
    if len(text) > MOST_NUMBERS or not row.whole:
        return NO_TEXT
    if not loops_wait(tree_of(row.told, text)):
        return LOOP_WITHOUT_WAIT
    return 0


def parts_at(statements, number, place):
    """What stands at this place in each of those statements that have this number."""
    return [statement[place] for statement in statements if statement[0] == number]


def variables_put(statements):
    put = parts_at(statements, PUT, 1) + parts_at(statements, STEP, 3)
    return put + parts_at(statements, HEAR, 2) + parts_at(statements, CATCH, 1)


def set_as_number(members):
    return sum([count for member, count in enumerate(COUNTS) if member in members])


def worth_of_two(operation, first, second):
    """What an expression of two others is worth, told by what these are worth."""
    if operation == SUM:
        return (first + second) % MODULUS
    if operation == DIFFERENCE:
        return max(first - second, 0)
    if operation == PRODUCT:
        return first * second % MODULUS
    if operation == LESS:
        return 1 if first < second else 0
    # What is left is ALIKE.
    return 1 if first == second else 0


def worth(expression, held):
    """What an expression is worth, if the variables hold this."""
    if expression[0] == NUMBER:
        return expression[1]
    if expression[0] == VARIABLE:
        return held[expression[1]]
    return worth_of_two(expression[0], worth(expression[1], held), worth(expression[2], held))


def tidied(letter, part):
    """What stands for this letter, tidied: its own parts first, and then it by itself."""
    if not has_level(letter):
        return part
    letters = parts_of(letter, part[0])
    whole = (part[0],) + tuple([tidied(inner_letter, inner) for inner_letter, inner in zip(letters, part[1:])])
    if letter == "e":
        return tidied_expression(whole)
    return tidied_statement(whole)


def tidied_expression(expression):
    """An expression whose parts are tidied, tidied by itself."""
    if expression[0] in (NUMBER, VARIABLE):
        return expression
    if expression[1][0] == NUMBER and expression[2][0] == NUMBER:
        return (NUMBER, worth_of_two(expression[0], expression[1][1], expression[2][1]))
    return expression


def tidied_statement(statement):
    """A statement whose parts are tidied, tidied by itself."""
    number = statement[0]
    if number == PUT:
        return tidied_put(statement[1], statement[2])
    if number in (THEN, BOTH):
        return tidied_pair(number, statement[1], statement[2])
    if number == CHOICE:
        return tidied_choice(statement[1], statement[2], statement[3])
    if number == CATCH:
        return tidied_catch(statement[1], statement[2], statement[3])
    if number == LOOP and statement[1] == (NUMBER, 0):
        return (NOTHING,)
    if number == WITHIN and statement[2][0] in (NOTHING, FAIL):
        return statement[2]
    if number == DEAL and statement[1][0] in (NOTHING, FAIL, DEAL):
        return statement[1]
    return statement


def tidied_put(variable, expression):
    if expression == (VARIABLE, variable):
        return (NOTHING,)
    return (PUT, variable, expression)


def tidied_pair(number, first, second):
    """A THEN or a BOTH."""
    if first[0] == NOTHING:
        return second
    if first[0] == FAIL or second[0] == NOTHING:
        return first
    return (number, first, second)


def tidied_choice(expression, first, second):
    if expression[0] == NUMBER:
        return second if expression[1] == 0 else first
    if first == second:
        return first
    return (CHOICE, expression, first, second)


def tidied_catch(variable, first, second):
    if first[0] == NOTHING:
        return first
    if first[0] == FAIL:
        # The failure is caught for certain, so all that is left of it is what the variable becomes.
        return tidied_pair(THEN, tidied_put(variable, first[1]), second)
    return (CATCH, variable, first, second)


def read(text):
    """How many statements there are in the text, then how many levels; or a refusal alone."""
    row = row_of(text, "s")
    refusal = refusal_of(row, text)
    if refusal < 0:
        return [refusal]
    statements = [thing for thing in row.told if thing[0] == "s"]
    return [len(statements), max([thing[1] for thing in row.told])]


def where(text):
    """The place of the first number that can't stand, or of the one that's missing; -6 if the row is one statement."""
    row = row_of(text, "s")
    if row.whole:
        return [ONE_STATEMENT]
    return [len(row.told)]


def uses(text):
    """0, then as sets: works asked, works that put back, kinds heard, kinds told, changes, variables put into."""
    row = row_of(text, "s")
    refusal = refusal_of(row, text)
    if refusal < 0:
        return [refusal]
    statements = statements_in(tree_of(row.told, text))
    asked = parts_at(statements, STEP, 1)
    # A step's b is one more than the work that puts it back, so that its 0 can say that nothing does.
    back = [by - 1 for by in parts_at(statements, STEP, 4) if by > 0]
    heard = parts_at(statements, HEAR, 1)
    told = parts_at(statements, TELL, 2)
    changes = parts_at(statements, CHANGE, 1)
    sets = (asked, back, heard, told, changes, variables_put(statements))
    return [0] + [set_as_number(members) for members in sets]


def soon(text):
    """1 if the text may end well at once, and 2 more if it may fail at once; or a refusal."""
    row = row_of(text, "s")
    refusal = refusal_of(row, text)
    if refusal < 0:
        return [refusal]
    may = at_once(tree_of(row.told, text))
    return [(1 if may.ends else 0) + (2 if may.fails else 0)]


def tidy(text):
    """How many numbers the text has, tidied; then these; or a refusal alone."""
    row = row_of(text, "s")
    refusal = refusal_of(row, text)
    if refusal < 0:
        return [refusal]
    numbers = numbers_of(tidied("s", tree_of(row.told, text)))
    return [len(numbers)] + numbers


def value(e, the_vars):
    """0, then what the expression is worth, if the variables hold these; or a refusal alone."""
    row = row_of(e, "e")
    if not row.whole or len(the_vars) != VARIABLE_COUNT:
        return [NO_EXPRESSION]
    return [0, worth(tree_of(row.told, e), the_vars)]
