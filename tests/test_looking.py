"""Looking spared: where looking begins, what becomes of the mark, and when a letter counts as looked at."""

import unittest

from telling import (ANYTHING, ask, begin, box, clause, counts, forget, letters, make, name, names, number, receive, row,
                     send, stop, take, ticks, token, values, word)


def marked(before, made, behind):
    """Letters sent before the last of so many tokens was made, and after it."""
    return ([make()] * (made - 1) + [send(letter) for letter in before] + [make()]
            + [send(letter) for letter in behind])


def looked_by(*calls):
    """What the last of these calls answers, and how many times a letter was looked at by it."""
    got = ask(*calls[:-1], counts(), calls[-1], counts())
    return got[-2], got[-1][2] - got[-3][2]


class WhereLookingBegins(unittest.TestCase):
    BEFORE = [number(1), token(0), word(3)]
    BEHIND = [number(1), row(token(1), number(2)), token(1)]

    def check(self, clauses, given, looked):
        self.assertEqual(looked_by(*marked(self.BEFORE, 2, self.BEHIND), take(*clauses)), (given, looked))

    def test_at_the_mark_if_every_clause_asks_for_the_last_token(self):
        self.check([clause(token(1))], [1, 5, 1], 3)
        self.check([clause(row(token(1), ANYTHING))], [1, 4, 1], 2)
        self.check([clause(row(ANYTHING, token(1))), clause(row(row(), row(token(1)), ANYTHING))], [2], 3)
        self.check([clause(token(1)), clause(row(token(1), ANYTHING))], [1, 4, 2], 2)
        self.check([clause(token(1))] * 6, [1, 5, 1], 3)

    def test_else_at_the_first_letter(self):
        self.check([clause(token(0))], [1, 1, 1], 2)
        self.check([clause(word(9))], [2], 6)
        self.check([clause(number(1))], [1, 0, 1], 1)
        self.check([clause(name(0), [5, 0, 0])], [1, 1, 1], 2)
        self.check([clause(token(2))], [2], 6)
        self.check([clause(token(1000))], [2], 6)

    def test_at_the_first_letter_if_only_some_clause_asks_for_it(self):
        self.check([clause(token(1)), clause(number(9))], [1, 5, 1], 6)
        self.check([clause(number(9)), clause(token(1))], [1, 5, 2], 6)
        self.check([clause(token(1)), clause(token(0))], [1, 1, 2], 2)
        self.check([clause(token(1)), clause(number(1))], [1, 0, 2], 1)
        self.check([clause(token(1))] * 5 + [clause(number(9))], [1, 5, 1], 6)
        self.check([clause(token(1))] * 2 + [clause(number(9))] + [clause(token(1))] * 3, [1, 5, 1], 6)

    def test_at_the_first_letter_for_an_older_token(self):
        older = marked([number(1), row(token(0))], 2, [token(0), token(1)])
        self.assertEqual(looked_by(*older, take(clause(token(0)))), ([1, 2, 1], 3))
        self.assertEqual(looked_by(*older, take(clause(row(token(0))))), ([1, 1, 1], 2))
        self.assertEqual(looked_by(*older, take(clause(row(token(0), token(1))))), ([2], 2))
        self.assertEqual(looked_by(*older, take(clause(row(token(0), token(0))))), ([2], 4))

    def test_a_1_or_2_that_is_no_token_asks_for_none(self):
        self.check([clause(row(number(2), number(1)))], [2], 6)
        self.check([clause(row(ANYTHING, word(2), word(1)))], [2], 6)
        self.check([clause(row(word(2), word(1), ANYTHING))], [2], 6)
        self.check([clause(row(name(2), number(1)))], [2], 6)

    def test_the_last_token_of_many(self):
        calls = marked([number(1), token(10)], 12, [token(11), number(2)])
        self.assertEqual(looked_by(*calls, take(clause(token(11)))), ([1, 2, 1], 1))
        self.assertEqual(looked_by(*calls, take(clause(token(10)))), ([1, 1, 1], 2))
        self.assertEqual(looked_by(*calls, take(clause(token(12)))), ([2], 4))

    def test_no_token_made(self):
        calls = [send(number(1)), send(number(2))]
        self.assertEqual(looked_by(*calls, take(clause(token(0)))), ([2], 2))
        self.assertEqual(looked_by(*calls, take(clause(number(2)))), ([1, 1, 1], 2))


class ANameThatHasTheToken(unittest.TestCase):
    BEFORE = WhereLookingBegins.BEFORE
    BEHIND = WhereLookingBegins.BEHIND
    # Behind the mark a token 1 more, which name 4 has as value then; name 3 has token 0, taken from ahead of the mark.
    # What is left: number 1, word 3, the mark, and what is behind it.
    NAMED = marked(BEFORE, 2, [token(1)] + BEHIND) + [take(clause(name(3), [5, 3, 0])), take(clause(name(4), [5, 4, 0]))]

    def check(self, clauses, given, looked):
        self.assertEqual(looked_by(*self.NAMED, take(*clauses)), (given, looked))

    def test_how_it_stands(self):
        self.assertEqual(ask(*self.NAMED, names(), box(), counts())[-5:],
                         [[1, 1, 1], [1, 2, 1], values(n3=token(0), n4=token(1)),
                          letters(number(1), word(3), *self.BEHIND), [7, 2, 5, 0]])

    def test_it_asks_for_it(self):
        self.check([clause(name(4))], [1, 4, 1], 3)
        self.check([clause(row(ANYTHING, name(4)))], [2], 3)
        self.check([clause(row(name(4), ANYTHING))], [1, 3, 1], 2)
        self.check([clause(row(name(5), number(9), name(4)))], [2], 3)
        self.check([clause(row(name(4), ANYTHING)), clause(token(1))], [1, 3, 1], 2)

    def test_a_name_with_an_older_token_does_not(self):
        self.check([clause(name(3))], [2], 5)
        self.check([clause(row(name(3), name(3)))], [2], 5)
        self.check([clause(name(4)), clause(name(3))], [1, 4, 1], 5)

    def test_a_name_without_a_value_does_not(self):
        self.check([clause(name(5), [7, 5, 4])], [1, 4, 1], 5)
        self.check([clause(row(name(5), name(5)))], [2], 5)

    def test_a_name_in_a_test_does_not(self):
        self.check([clause(ANYTHING, [6, 4, 0])], [2], 5)
        self.check([clause(word(9), [5, 4, 0], [7, 4, 4])], [2], 5)

    def test_it_does_no_more_once_it_is_forgotten(self):
        got = ask(*self.NAMED, forget(4), counts(), take(clause(name(4), [5, 4, 0])), counts(), names())
        self.assertEqual(got[-5:], [[1], [7, 2, 5, 0], [1, 4, 1], [7, 3, 10, 0], values(n3=token(0), n4=token(1))])

    def test_it_does_no_more_once_another_token_is_made(self):
        calls = self.NAMED + [make(), send(token(2))]
        self.assertEqual(looked_by(*calls, take(clause(name(4)))), ([1, 4, 1], 5))
        self.assertEqual(looked_by(*calls, take(clause(row(name(4), name(4))))), ([2], 6))
        self.assertEqual(looked_by(*calls, take(clause(row(name(4), token(2))))), ([2], 1))

    def test_a_name_whose_value_only_has_the_token_in_it_does_not_ask_for_it(self):
        calls = marked(self.BEFORE, 2, self.BEHIND)
        self.assertEqual(looked_by(*calls, take(clause(name(0), [6, 0, 2]))), ([1, 4, 1], 5))
        self.assertEqual(looked_by(*calls, take(clause(name(0), [6, 0, 2])), take(clause(name(0)))), ([2], 5))


class TheMark(unittest.TestCase):
    def test_it_is_behind_all_letters_that_are_there(self):
        for ahead in range(4):
            for behind in range(4):
                with self.subTest(ahead=ahead, behind=behind):
                    calls = marked([number(n) for n in range(ahead)], 1, [word(n) for n in range(behind)])
                    self.assertEqual(looked_by(*calls, take(clause(token(0)))), ([2], behind))

    def test_letters_taken_from_ahead_leave_it_between_the_others(self):
        calls = marked([number(1), number(2)], 1, [number(3), token(0)])
        self.assertEqual(looked_by(*calls, take(clause(number(1)))), ([1, 0, 1], 1))
        for gone, left in [([number(1)], [number(2)]), ([number(2)], [number(1)]), ([number(1), number(2)], []),
                           ([number(2), number(1)], [])]:
            with self.subTest(gone=gone):
                more = calls + [take(clause(letter)) for letter in gone]
                self.assertEqual(ask(*more, box())[-1], letters(*left, number(3), token(0)))
                self.assertEqual(looked_by(*more, take(clause(token(0), [3, 0, 0]))), ([2], 2))
                self.assertEqual(looked_by(*more, take(clause(token(0)))), ([1, len(left) + 1, 1], 2))

    def test_letters_taken_from_behind_leave_it_where_it_is(self):
        calls = marked([number(1), number(2)], 1, [number(3), token(0)])
        self.assertEqual(looked_by(*calls, take(clause(number(3)))), ([1, 2, 1], 3))
        self.assertEqual(looked_by(*calls, take(clause(number(3))), take(clause(token(0)))), ([1, 2, 1], 1))
        self.assertEqual(looked_by(*calls, take(clause(token(0))), take(clause(token(0)))), ([2], 1))

    def test_the_letter_right_behind_it_and_the_one_right_ahead(self):
        calls = marked([number(1), number(2)], 1, [number(3), number(4)])
        self.assertEqual(looked_by(*calls, take(clause(number(3))), take(clause(token(0)))), ([2], 1))
        self.assertEqual(looked_by(*calls, take(clause(number(2))), take(clause(token(0)))), ([2], 2))

    def test_all_letters_taken(self):
        calls = marked([number(1)], 1, [number(2)]) + [take(clause(ANYTHING))] * 2
        self.assertEqual(looked_by(*calls, take(clause(token(0)))), ([2], 0))
        self.assertEqual(looked_by(*calls, send(number(3)), send(token(0)), take(clause(token(0)))), ([1, 1, 1], 2))

    def test_letters_that_come_later_are_behind_it(self):
        calls = marked([number(1), number(2)], 1, [])
        self.assertEqual(looked_by(*calls, take(clause(token(0)))), ([2], 0))
        self.assertEqual(looked_by(*calls, send(number(3)), take(clause(token(0)))), ([2], 1))
        self.assertEqual(looked_by(*calls, take(clause(number(1))), send(number(3)), send(row(token(0))),
                                   take(clause(row(token(0))))), ([1, 2, 1], 2))

    def test_a_letter_that_ends_waiting_leaves_it_where_it_is(self):
        calls = marked([number(1)], 1, []) + [receive(0, 0, clause(token(0)))]
        self.assertEqual(looked_by(*calls, send(token(0))), ([1, 1, 1], 1))
        self.assertEqual(looked_by(*calls, send(token(0)), send(number(2)), take(clause(token(0)))), ([2], 1))

    def test_a_letter_that_comes_while_it_waits_is_behind_it(self):
        calls = marked([number(1)], 1, []) + [receive(0, 0, clause(token(0))), send(number(2)), send(word(2)), stop()]
        self.assertEqual(looked_by(*calls, take(clause(token(0)))), ([2], 2))

    def test_a_second_token_marks_anew(self):
        calls = marked([number(1)], 1, [token(0), number(2)]) + [make()]
        self.assertEqual(looked_by(*calls, take(clause(token(1)))), ([2], 0))
        self.assertEqual(looked_by(*calls, take(clause(token(0)))), ([1, 1, 1], 2))
        self.assertEqual(looked_by(*calls, send(token(0)), send(token(1)), take(clause(token(1)))), ([1, 4, 1], 2))
        self.assertEqual(looked_by(*calls, take(clause(number(2))), send(token(1)), take(clause(token(1)))),
                         ([1, 2, 1], 1))

    def test_a_second_token_marks_anew_ahead_of_the_first_mark(self):
        calls = marked([number(1), number(2)], 1, []) + [take(clause(number(1))), take(clause(number(2))), make()]
        self.assertEqual(looked_by(*calls, send(number(3)), send(number(4)), take(clause(token(1)))), ([2], 2))

    def test_a_second_token_with_no_letter_between(self):
        calls = marked([number(1)], 2, [token(0), token(1)])
        self.assertEqual(looked_by(*calls, take(clause(token(1)))), ([1, 2, 1], 2))
        self.assertEqual(looked_by(*calls, take(clause(token(0)))), ([1, 1, 1], 2))

    def test_begin_takes_it_away(self):
        calls = marked([number(1), number(2)], 1, [token(0)]) + [begin()]
        self.assertEqual(looked_by(*calls, send(number(1)), send(number(2)), take(clause(token(0)))), ([2], 2))
        self.assertEqual(looked_by(*calls, send(number(1)), make(), take(clause(token(0)))), ([2], 0))
        self.assertEqual(looked_by(*calls, make(), send(token(0)), send(number(1)), take(clause(token(0)))),
                         ([1, 0, 1], 1))

    def test_a_token_that_is_refused_leaves_it_where_it_is(self):
        calls = marked([number(1)], 1, []) + [receive(0, 0, clause(word(1))), send(number(2)), make(), stop()]
        self.assertEqual(ask(*calls)[-2:], [[-8], [0]])
        self.assertEqual(looked_by(*calls, take(clause(token(0)))), ([2], 1))
        self.assertEqual(looked_by(*calls, take(clause(token(1)))), ([2], 2))


class HowManyTimes(unittest.TestCase):
    BOX = [send(number(1)), send(number(2)), make()]

    def test_once_for_all_clauses(self):
        self.assertEqual(looked_by(*self.BOX, take(clause(word(1)), clause(word(2)), clause(number(2)))),
                         ([1, 1, 3], 2))
        self.assertEqual(looked_by(*self.BOX, take(*[clause(word(1))] * 6)), ([2], 2))

    def test_each_time_anew(self):
        self.assertEqual(ask(*self.BOX, *[take(clause(word(1))), counts()] * 3)[3:],
                         [[2], [2, 0, 2, 0], [2], [2, 0, 4, 0], [2], [2, 0, 6, 0]])

    def test_whether_it_waits_then_or_not(self):
        for call, given in [(receive(0, 0, clause(word(1))), [0]), (receive(1, 5, clause(word(1))), [0]),
                            (take(clause(word(1))), [2])]:
            with self.subTest(call=call):
                self.assertEqual(looked_by(*self.BOX, call), (given, 2))

    def test_while_it_waits_only_what_comes_is_looked_at(self):
        self.assertEqual(ask(*self.BOX, receive(0, 0, clause(word(1))), counts(), send(word(2)), counts(),
                             send(word(1)), counts(), send(word(1)), counts())[3:],
                         [[0], [2, 0, 2, 1], [0], [3, 0, 3, 1], [1, 3, 1], [4, 1, 4, 0], [0], [5, 1, 4, 0]])

    def test_nothing_in_the_box(self):
        self.assertEqual(looked_by(take(clause(ANYTHING))), ([2], 0))

    def test_other_calls_look_at_none(self):
        for call in [send(number(3)), ticks(1), make(), names(), forget(0), box(), counts()]:
            with self.subTest(call=call):
                self.assertEqual(looked_by(*self.BOX, call)[1], 0)

    def test_what_is_refused_is_not_looked_at(self):
        for call in [receive(2, 0, clause(ANYTHING)), receive(0, 0), receive(0, 1001, clause(ANYTHING))]:
            with self.subTest(call=call):
                self.assertEqual(looked_by(*self.BOX, call)[1], 0)
        for call in [send([]), send(token(1)), receive(0, 0, clause(ANYTHING))]:
            with self.subTest(call=call):
                self.assertEqual(looked_by(*self.BOX, receive(0, 0, clause(word(1))), call)[1], 0)


if __name__ == "__main__":
    unittest.main()
