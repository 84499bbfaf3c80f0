"""Clauses: how they are told, and which of them takes a letter. A clause is a tuple: its pattern, its tests."""

from pickedletters.terms import ANYTHING, HIGHEST, NAME, NUMBER, ROW, TOKEN, WORD, end_of

LONGEST_CLAUSES = 100
MOST_CLAUSES = 6
MOST_TESTS = 4
TEST_LENGTH = 3

IS_NUMBER_N = 0
IS_NUMBER_BELOW = 1
IS_NUMBER_ABOVE = 2
IS_NUMBER = 3
IS_WORD = 4
IS_TOKEN = 5
IS_ROW_OF = 6
IS_VALUE_OF = 7


def is_test(test):
    if test[0] > IS_VALUE_OF or test[1] > HIGHEST[NAME]:
        return False
    return test[0] != IS_VALUE_OF or test[2] <= HIGHEST[NAME]


# The tests whose count stands at start, None if they are not told there.
def tests_told(told, start):
    if start >= len(told) or told[start] > MOST_TESTS:
        return None
    end = start + 1 + told[start] * TEST_LENGTH
    if end > len(told):
        return None
    tests = [told[place:place + TEST_LENGTH] for place in range(start + 1, end, TEST_LENGTH)]
    return tests if all([is_test(test) for test in tests]) else None


# All clauses that are told, None if it's not 1 to 6 of them and nothing else.
def clauses_told(told):
    if len(told) > LONGEST_CLAUSES:
        return None
    clauses = []
    place = 0
    while place < len(told):
        pattern_end = end_of(told, place, NAME)
        if pattern_end is None:
            return None
        tests = tests_told(told, pattern_end)
        if tests is None:
            return None
        clauses.append((told[place:pattern_end], tests))
        place = pattern_end + 1 + len(tests) * TEST_LENGTH
    return clauses if 1 <= len(clauses) <= MOST_CLAUSES else None


# The names' values that fitting gives, None if the letter doesn't fit.
# Parts are told in the order in which they are to fit, so one walk along both is enough:
# as long as all has fitted, the same part of both begins at the two places.
def names_if_fits(pattern, letter, names):
    after = list(names)
    place = 0
    at = 0
    while place < len(pattern):
        kind = pattern[place]
        if kind == ANYTHING:
            at = end_of(letter, at, ROW)
            place += 1
            continue
        if kind == NAME:
            name = pattern[place + 1]
            end = end_of(letter, at, ROW)
            if after[name] is None:
                after[name] = letter[at:end]
            if after[name] != letter[at:end]:
                return None
            at = end
        else:
            if pattern[place:place + 2] != letter[at:at + 2]:
                return None
            at += 2
        place += 2
    return after


def holds(test, names):
    value = names[test[1]]
    if value is None:
        return False
    what = test[0]
    n = test[2]
    if what == IS_VALUE_OF:
        return value == names[n]
    if what == IS_ROW_OF:
        return value[0] == ROW and value[1] == n
    if what == IS_TOKEN:
        return value[0] == TOKEN
    if what == IS_WORD:
        return value[0] == WORD
    if value[0] != NUMBER:
        return False
    if what == IS_NUMBER_N:
        return value[1] == n
    if what == IS_NUMBER_BELOW:
        return value[1] < n
    if what == IS_NUMBER_ABOVE:
        return value[1] > n
    return what == IS_NUMBER


# The names' values that taking gives, None if the clause doesn't take the letter.
def names_if_takes(clause, letter, names):
    after = names_if_fits(clause[0], letter, names)
    if after is None or not all([holds(test, after) for test in clause[1]]):
        return None
    return after


# Which clause is the first that takes the letter, from 1 on, and the names' values then; None if none does.
def first_to_take(clauses, letter, names):
    for which, clause in enumerate(clauses, start=1):
        after = names_if_takes(clause, letter, names)
        if after is not None:
            return (which, after)
    return None
