"""Looking spared. A token is made by hand here: the box's mark and the tokens made are set on the process."""

import unittest

from pickedletters.process import Process
from telling import ANYTHING, clause, name, number, row, token, word


def marked(before, made, behind):
    """A process with letters from before the last of so many tokens was made, and from after it."""
    process = Process()
    process.made = made - 1
    for letter in before:
        process.send(letter)
    process.made = made
    process.mark = len(process.box)
    for letter in behind:
        process.send(letter)
    return process


def looked_by(process, *clauses):
    """What a receive that doesn't wait answers, and how many letters it looked at."""
    before = process.looked
    return process.receive(1, 0, sum(clauses, [])), process.looked - before


class WhereLookingBegins(unittest.TestCase):
    BEFORE = [number(1), token(0), word(3)]
    BEHIND = [number(1), row(token(1), number(2)), token(1)]

    def check(self, clauses, given, looked):
        self.assertEqual(looked_by(marked(self.BEFORE, 2, self.BEHIND), *clauses), (given, looked))

    def test_at_the_mark_if_every_clause_asks_for_the_last_token(self):
        self.check([clause(token(1))], [1, 5, 1], 3)
        self.check([clause(row(token(1), ANYTHING))], [1, 4, 1], 2)
        self.check([clause(row(ANYTHING, token(1))), clause(row(row(), row(token(1)), ANYTHING))], [2], 3)
        self.check([clause(token(1)), clause(row(token(1), ANYTHING))], [1, 4, 2], 2)

    def test_else_at_the_first_letter(self):
        self.check([clause(token(0))], [1, 1, 1], 2)
        self.check([clause(word(9))], [2], 6)
        self.check([clause(number(1))], [1, 0, 1], 1)
        self.check([clause(token(1)), clause(number(9))], [1, 5, 1], 6)
        self.check([clause(number(9)), clause(token(1))], [1, 5, 2], 6)
        self.check([clause(name(0), [5, 0, 0])], [1, 1, 1], 2)
        self.check([clause(token(2))], [2], 6)

    def test_a_1_or_2_that_is_no_token_asks_for_none(self):
        self.check([clause(row(number(2), number(1)))], [2], 6)
        self.check([clause(row(ANYTHING, word(2), word(1)))], [2], 6)
        self.check([clause(row(word(2), word(1), ANYTHING))], [2], 6)

    def test_a_name_that_has_the_token_asks_for_it(self):
        process = marked(self.BEFORE, 2, [token(1)] + self.BEHIND)
        self.assertEqual(looked_by(process, clause(name(3), [5, 3, 0], [7, 3, 3])), ([1, 1, 1], 2))
        self.assertEqual(looked_by(process, clause(name(4), [5, 4, 0])), ([1, 2, 1], 3))
        self.assertEqual(process.mark, 2)
        self.assertEqual(looked_by(process, clause(name(3))), ([2], 5))
        self.assertEqual(looked_by(process, clause(row(ANYTHING, name(4)))), ([2], 3))
        self.assertEqual(looked_by(process, clause(name(5), [7, 5, 4])), ([1, 4, 1], 5))
        self.assertEqual(looked_by(process, clause(row(name(4), ANYTHING))), ([1, 3, 1], 2))

    def test_a_name_whose_value_only_has_the_token_in_it_does_not_ask_for_it(self):
        process = marked(self.BEFORE, 2, self.BEHIND)
        self.assertEqual(looked_by(process, clause(name(0), [6, 0, 2])), ([1, 4, 1], 5))
        self.assertEqual(looked_by(process, clause(name(0))), ([2], 5))

    def test_a_name_in_a_test_does_not_ask_for_it(self):
        process = marked([], 1, [token(0), word(1)])
        self.assertEqual(looked_by(process, clause(name(0))), ([1, 0, 1], 1))
        process = marked(self.BEFORE, 2, self.BEHIND)
        self.assertEqual(looked_by(process, clause(ANYTHING, [7, 1, 1], [5, 1, 0])), ([2], 6))

    def test_no_token_made(self):
        process = Process()
        process.send(number(1))
        process.send(number(2))
        self.assertEqual(looked_by(process, clause(token(0))), ([2], 2))
        self.assertEqual(looked_by(process, clause(number(2))), ([1, 1, 1], 2))


class TheMark(unittest.TestCase):
    def test_letters_taken_from_ahead_leave_it_between_the_others(self):
        process = marked([number(1), number(2)], 1, [number(3), token(0)])
        self.assertEqual(looked_by(process, clause(number(1))), ([1, 0, 1], 1))
        self.assertEqual(process.mark, 1)
        self.assertEqual(looked_by(process, clause(token(0), [3, 0, 0])), ([2], 2))

    def test_letters_taken_from_behind_leave_it_where_it_is(self):
        process = marked([number(1), number(2)], 1, [number(3), token(0)])
        self.assertEqual(looked_by(process, clause(number(3))), ([1, 2, 1], 3))
        self.assertEqual(process.mark, 2)
        self.assertEqual(looked_by(process, clause(token(0))), ([1, 2, 1], 1))

    def test_a_letter_that_ends_waiting_leaves_it_where_it_is(self):
        process = marked([number(1)], 1, [])
        self.assertEqual(process.receive(0, 0, clause(token(0))), [0])
        self.assertEqual(process.send(token(0)), [1, 1, 1])
        self.assertEqual((process.mark, process.looked), (1, 1))


class HowManyTimes(unittest.TestCase):
    def test_once_for_all_clauses(self):
        process = marked([number(1), number(2)], 1, [])
        self.assertEqual(looked_by(process, clause(word(1)), clause(word(2)), clause(number(2))), ([1, 1, 3], 2))

    def test_while_it_waits_only_what_comes_is_looked_at(self):
        process = marked([number(1), number(2)], 1, [])
        self.assertEqual(process.receive(0, 0, clause(word(1))), [0])
        self.assertEqual(process.looked, 2)
        self.assertEqual(process.send(word(2)), [0])
        self.assertEqual(process.looked, 3)
        self.assertEqual(process.send(word(1)), [1, 3, 1])
        self.assertEqual(process.looked, 4)
        self.assertEqual(process.send(word(1)), [0])
        self.assertEqual(process.looked, 4)

    def test_what_is_refused_is_not_looked_at(self):
        process = marked([number(1), number(2)], 1, [])
        self.assertEqual([process.receive(2, 0, clause(ANYTHING)), process.receive(0, 0, [])], [[-2], [-1]])
        self.assertEqual(process.receive(0, 0, clause(word(1))), [0])
        self.assertEqual([process.send([]), process.send(token(1)), process.receive(0, 0, clause(ANYTHING))],
                         [[-1], [-3], [-8]])
        self.assertEqual(process.looked, 2)


class TokensMade(unittest.TestCase):
    def test_a_token_that_was_made_may_be_sent(self):
        process = marked([], 2, [])
        self.assertEqual([process.send(token(n)) for n in range(3)], [[0], [0], [-3]])
        self.assertEqual(process.send(row(token(0), row(token(1)))), [0])
        self.assertEqual(process.send(row(token(0), row(token(2)))), [-3])
        self.assertEqual(process.receive(0, 0, clause(token(1))), [1, 1, 1])

    def test_1001_tokens(self):
        process = marked([], 1001, [])
        self.assertEqual([process.send(token(1000)), process.send(token(1001))], [[0], [-1]])
        self.assertEqual(process.receive(1, 0, clause(name(0), [5, 0, 9], [7, 0, 0])), [1, 0, 1])

    def test_a_token_is_no_number_and_no_word(self):
        process = marked([], 5, [token(4)])
        for test in [[0, 0, 4], [1, 0, 5], [2, 0, 3], [3, 0, 0], [4, 0, 0], [6, 0, 4], [7, 0, 1]]:
            self.assertEqual(process.receive(1, 0, clause(name(0), test)), [2])
        for pattern in [number(4), word(4), token(3)]:
            self.assertEqual(process.receive(1, 0, clause(pattern)), [2])
        self.assertEqual(process.receive(1, 0, clause(token(4))), [1, 0, 1])


if __name__ == "__main__":
    unittest.main()
