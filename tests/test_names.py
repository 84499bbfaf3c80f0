"""names; and promise 3, of forget."""

import unittest

from telling import (ANYTHING, SEEN, TOP, ask, begin, box, clause, counts, forget, last, letters, make, name, names,
                     nested, number, receive, row, send, stop, take, ticks, token, values, word)

TERMS = [number(0), number(9), number(1000000), word(0), word(9), word(99), token(0), row(), row(number(9)),
         row(word(1), token(0), row(), row(number(2), row(word(3)))), nested(8, number(5)),
         row(*[row(number(1), number(2), number(3)) for i in range(7)], number(4))]


class Told(unittest.TestCase):
    def test_none_at_first(self):
        self.assertEqual(ask(names()), [[9] * 10])
        self.assertEqual(values(), [9] * 10)

    def test_number_by_number(self):
        self.assertEqual(last(make(), send([3, 4, 0, 7, 1, 8, 2, 0, 3, 1, 3, 0]),
                              take(clause(row(name(0), name(2), name(3), name(9)))), names()),
                         [0, 7, 9, 1, 8, 2, 0, 9, 9, 9, 9, 9, 3, 1, 3, 0])

    def test_values_of_every_kind(self):
        for term in TERMS:
            for n in [0, 4, 9]:
                with self.subTest(term=term, n=n):
                    self.assertEqual(last(make(), send(term), take(clause(name(n))), names()), values(**{f"n{n}": term}))

    def test_parts_of_a_letter(self):
        letter = row(number(1), row(word(2), row(number(3))), row())
        for pattern, given in [(row(name(1), name(2), name(3)),
                                values(n1=number(1), n2=row(word(2), row(number(3))), n3=row())),
                               (row(ANYTHING, row(name(5), row(name(4))), ANYTHING), values(n4=number(3), n5=word(2))),
                               (row(number(1), name(0), name(9)), values(n0=row(word(2), row(number(3))), n9=row())),
                               (name(7), values(n7=letter)), (ANYTHING, values())]:
            with self.subTest(pattern=pattern):
                self.assertEqual(last(send(letter), take(clause(pattern)), names()), given)

    def test_all_ten_have_one(self):
        calls = [call for n in range(10) for call in [send(number(n + 20)), take(clause(name(n)))]]
        self.assertEqual(last(*calls, names()), values(**{f"n{n}": number(n + 20) for n in range(10)}))

    def test_by_the_first_clause_that_takes_it_alone(self):
        self.assertEqual(last(send(number(1)), send(row(number(2), word(3))),
                              take(clause(row(name(0), name(1), name(2))), clause(row(name(3), word(4))),
                                   clause(row(name(5), name(5))), clause(row(name(6), name(7)), [4, 6, 0]),
                                   clause(row(name(8), ANYTHING)), clause(name(9))), names()),
                         values(n9=number(1)))
        self.assertEqual(last(send(row(number(2), word(3))),
                              take(clause(row(name(0), name(1), name(2))), clause(row(name(3), word(4))),
                                   clause(row(name(5), name(5))), clause(row(name(6), name(7)), [4, 6, 0]),
                                   clause(row(name(8), ANYTHING)), clause(name(9))), names()),
                         values(n8=number(2)))

    def test_what_does_not_take_leaves_them_as_they_were(self):
        clauses = [clause(row(name(0), name(1), word(9))), clause(name(2), [0, 2, 5])]
        before = [send(number(8)), take(clause(name(3))), send(row(number(1), number(2), number(3)))]
        for call in [take(*clauses), receive(0, 0, *clauses), receive(1, 4, *clauses)]:
            with self.subTest(call=call):
                self.assertEqual(last(*before, call, names()), values(n3=number(8)))
        self.assertEqual(last(*before, receive(0, 0, *clauses), send(row(word(1), word(2), word(3))), names()),
                         values(n3=number(8)))

    def test_while_it_waits_and_after(self):
        self.assertEqual(ask(receive(0, 0, clause(row(name(0), number(1)))), names(), send(number(1)), names(),
                             send(row(word(4), number(1))), names()),
                         [[0], values(), [0], values(), [1, 1, 1], values(n0=word(4))])

    def test_a_value_stays_when_the_letter_is_gone_and_others_come(self):
        self.assertEqual(ask(send(number(1)), take(clause(name(0))), send(number(2)), take(clause(name(0))),
                             take(clause(ANYTHING)), make(), ticks(5), receive(0, 0, clause(name(0))), stop(), names()),
                         [[0], [1, 0, 1], [0], [2], [1, 0, 1], [0], [0], [0], [0], values(n0=number(1))])

    def test_begin_takes_them_all(self):
        self.assertEqual(last(send(row(number(1), number(2))), take(clause(row(name(0), name(9)))), begin(), names()),
                         values())

    def test_it_changes_nothing(self):
        before = [make(), send(token(0)), send(number(1)), take(clause(name(0))), receive(1, 2, clause(word(1)))]
        self.assertEqual(ask(*before, *[names()] * 5, box(), counts(), ticks(1), send(word(1)))[5:],
                         [values(n0=token(0))] * 5 + [letters(number(1)), [2, 1, 2, 1], [0], [1, 1, 1]])


class Forgotten(unittest.TestCase):
    def test_one_with_a_value(self):
        for term in TERMS:
            with self.subTest(term=term):
                self.assertEqual(ask(make(), send(term), take(clause(name(5))), forget(5), names(), forget(5))[3:],
                                 [[1], values(), [0]])

    def test_one_without(self):
        for n in range(10):
            with self.subTest(n=n):
                self.assertEqual(ask(forget(n), names(), box(), counts()), [[0], values(), letters(), [0, 0, 0, 0]])

    def test_it_alone(self):
        all_ten = [send(row(*[number(n) for n in range(5)])), take(clause(row(*[name(n) for n in range(5)]))),
                   send(row(*[word(n) for n in range(5, 10)])), take(clause(row(*[name(n) for n in range(5, 10)])))]
        told = {f"n{n}": number(n) if n < 5 else word(n) for n in range(10)}
        self.assertEqual(last(*all_ten, names()), values(**told))
        for n in range(10):
            with self.subTest(n=n):
                left = {which: value for which, value in told.items() if which != f"n{n}"}
                self.assertEqual(ask(*all_ten, forget(n), names())[4:], [[1], values(**left)])

    def test_the_box_and_the_counts_stay(self):
        before = [send(number(1)), send(number(2)), take(clause(name(0)))]
        self.assertEqual(ask(*before, forget(0), box(), counts())[3:], [[1], letters(number(2)), [2, 1, 1, 0]])

    def test_it_may_get_a_new_value_then(self):
        self.assertEqual(ask(send(number(1)), send(number(2)), take(clause(name(0))), take(clause(name(0))), forget(0),
                             take(clause(name(0))), names()),
                         [[0], [0], [1, 0, 1], [2], [1], [1, 0, 1], values(n0=number(2))])

    def test_it_may_get_the_same_value_again(self):
        self.assertEqual(ask(*[send(word(1)), take(clause(name(0))), forget(0)] * 3, names()),
                         [[0], [1, 0, 1], [1]] * 3 + [values()])

    def test_tests_of_it_hold_no_more(self):
        calls = [send(number(1)), take(clause(name(0))), send(number(1))]
        for test in [[0, 0, 1], [1, 0, 2], [2, 0, 0], [3, 0, 0], [7, 0, 0], [7, 0, 1]]:
            with self.subTest(test=test):
                self.assertEqual(last(*calls, forget(0), take(clause(ANYTHING, test))), [2])
        self.assertEqual(last(*calls, take(clause(ANYTHING, [3, 0, 0]))), [1, 0, 1])

    def test_another_name_keeps_the_same_value(self):
        self.assertEqual(last(send(row(number(1), number(1))), take(clause(row(name(0), name(1)))), forget(0), names()),
                         values(n1=number(1)))

    def test_a_waiting_that_is_over_hinders_no_more(self):
        before = [send(number(1)), take(clause(name(0))), receive(1, 2, clause(word(1)))]
        for end in [stop(), ticks(2), send(word(1))]:
            with self.subTest(end=end):
                self.assertEqual(ask(*before, forget(0), end, forget(0), forget(10), names())[3::2],
                                 [[-8], [1], values()])


class Refused(unittest.TestCase):
    BEFORE = [send(row(number(1), word(2))), take(clause(row(name(0), name(9)))), send(number(3)), make(), send(token(0))]

    def check(self, before, call, given):
        got = ask(*before, *SEEN, call, *SEEN)[len(before):]
        self.assertEqual(got[3], [given])
        self.assertEqual(got[:3], got[4:])
        self.assertEqual(got[4:6], [values(n0=number(1), n9=word(2)), letters(number(3), token(0))])

    def test_a_name_above_9(self):
        for n in [10, 11, 99, 1000, 1000000, 2147483648, TOP - 1, TOP]:
            with self.subTest(n=n):
                self.check(self.BEFORE, forget(n), -1)

    def test_while_it_waits(self):
        for wait in [receive(0, 0, clause(number(1))), receive(1, 7, clause(number(1)))]:
            for n in [0, 1, 9]:
                with self.subTest(wait=wait, n=n):
                    self.check(self.BEFORE + [wait], forget(n), -8)

    def test_waiting_comes_before_the_name(self):
        for n in [10, 11, TOP]:
            with self.subTest(n=n):
                self.check(self.BEFORE + [receive(0, 0, clause(number(1)))], forget(n), -8)

    def test_the_next_call_is_found_behind_it(self):
        self.assertEqual(ask(forget(TOP), forget(10), make(), forget(9), make()), [[-1], [-1], [0], [0], [1]])


if __name__ == "__main__":
    unittest.main()
