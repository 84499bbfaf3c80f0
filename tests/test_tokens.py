"""Promise 3, of token; and of promise 1 what is told of tokens that are sent."""

import unittest

from telling import (ANYTHING, SEEN, ask, ask_long, begin, box, clause, counts, forget, last, letters, make, name, names,
                     nested, number, receive, row, send, stop, take, ticks, token, values, word)

MANY = 1001


class Made(unittest.TestCase):
    def test_one_behind_another(self):
        self.assertEqual(ask(*[make()] * 60), [[n] for n in range(60)])

    def test_other_calls_between_make_none(self):
        self.assertEqual(ask(make(), send(token(0)), make(), take(clause(name(0))), send(token(1)), make(), forget(0),
                             names(), box(), counts(), ticks(1), make()),
                         [[0], [0], [1], [1, 0, 1], [0], [2], [1], values(), letters(token(1)), [2, 1, 1, 0], [0], [3]])

    def test_nothing_else_is_changed(self):
        before = [send(number(1)), send(word(2)), take(clause(name(3))), take(clause(number(9)))]
        self.assertEqual(ask(*before, make(), *SEEN)[5:], ask(*before, *SEEN)[4:])

    def test_begin_makes_them_anew(self):
        self.assertEqual(ask(make(), make(), begin(), make(), begin(), begin(), make(), make()),
                         [[0], [1], [0], [0], [0], [0], [0], [1]])

    def test_a_token_from_before_begin_was_not_made(self):
        self.assertEqual(ask(make(), make(), send(token(1)), begin(), send(token(0)), make(), send(token(0)),
                             send(token(1)), box()),
                         [[0], [1], [0], [0], [-3], [0], [0], [-3], letters(token(0))])


class Sent(unittest.TestCase):
    def test_one_that_was_made(self):
        self.assertEqual(ask(make(), make(), send(token(0)), send(token(1)), send(row(token(1), row(token(0)))), box()),
                         [[0], [1], [0], [0], [0], letters(token(0), token(1), row(token(1), row(token(0))))])

    def test_one_that_was_not_made_yet(self):
        terms = [token(2), token(3), token(1000), row(token(2)), row(token(0), token(2)), row(token(2), token(1)),
                 row(number(1), row(word(2), token(1000)), number(3)), nested(8, token(2)), row(*[token(1)] * 7, token(2))]
        for term in terms:
            with self.subTest(term=term):
                got = ask(make(), make(), send(number(7)), *SEEN, send(term), *SEEN, take(clause(ANYTHING)), box())
                self.assertEqual(got[6], [-3])
                self.assertEqual(got[3:6], got[7:10])
                self.assertEqual(got[10:], [[1, 0, 1], letters()])

    def test_it_may_be_sent_once_it_is_made(self):
        self.assertEqual(ask(send(token(0)), make(), send(token(0)), send(row(token(0), token(1))), make(),
                             send(row(token(0), token(1)))),
                         [[-3], [0], [0], [-3], [1], [0]])

    def test_one_that_was_not_made_does_not_end_waiting(self):
        self.assertEqual(ask(make(), receive(0, 0, clause(ANYTHING)), send(token(1)), counts(), send(token(0)), counts()),
                         [[0], [0], [-3], [0, 0, 0, 1], [1, 0, 1], [1, 1, 1, 0]])

    def test_what_is_no_term_comes_first(self):
        for term in [token(1) + [1], row(token(1), token(1001)), row(token(1001), token(1)), row(token(1), word(100)),
                     nested(9, token(1)), [3, 2, 2, 1], row(*[row(token(1), token(1), token(1))] * 7, row(token(1)))]:
            with self.subTest(term=term):
                got = ask(make(), send(token(0)), *SEEN, send(term), *SEEN)
                self.assertEqual(got[5], [-1])
                self.assertEqual(got[2:5], got[6:])

    def test_a_full_box_comes_last(self):
        fill = [make()] + [send(number(n)) for n in range(60)]
        for term, given in [(token(1001), -1), (row(token(1), token(1001)), -1), (token(1), -3), (row(token(1000)), -3),
                            (token(0), -6), (row(token(0)), -6)]:
            with self.subTest(term=term):
                got = ask_long(*fill, *SEEN, send(term), *SEEN)[61:]
                self.assertEqual(got[3], [given])
                self.assertEqual(got[:3], got[4:])
                self.assertEqual(got[4:], [values(), letters(*[number(n) for n in range(60)]), [60, 0, 0, 0]])


class Received(unittest.TestCase):
    def test_by_pattern(self):
        calls = [make(), make(), send(token(0)), send(row(number(1), token(1))), send(token(1))]
        self.assertEqual(last(*calls, take(clause(token(0)))), [1, 0, 1])
        self.assertEqual(last(*calls, take(clause(token(1)))), [1, 2, 1])
        self.assertEqual(last(*calls, take(clause(row(ANYTHING, token(1))))), [1, 1, 1])
        self.assertEqual(last(*calls, take(clause(row(ANYTHING, token(0))))), [2])
        self.assertEqual(last(*calls, take(clause(token(2)))), [2])

    def test_as_the_value_of_a_name(self):
        calls = [make(), make(), make(), send(token(2)), send(row(token(1), token(2))), send(row(token(2), token(2)))]
        self.assertEqual(ask(*calls, take(clause(name(6))), names())[-2:], [[1, 0, 1], values(n6=token(2))])
        self.assertEqual(ask(*calls, take(clause(name(6))), take(clause(row(name(6), ANYTHING))), box())[-2:],
                         [[1, 1, 1], letters(row(token(1), token(2)))])
        self.assertEqual(ask(*calls, take(clause(row(name(6), name(6)))), names())[-2:],
                         [[1, 2, 1], values(n6=token(2))])
        self.assertEqual(ask(*calls, take(clause(row(name(6), name(7)))), names())[-2:],
                         [[1, 1, 1], values(n6=token(1), n7=token(2))])

    def test_a_token_is_no_number_and_no_word(self):
        calls = [make()] * 5 + [send(token(4))]
        for test in [[0, 0, 4], [1, 0, 5], [2, 0, 3], [3, 0, 0], [4, 0, 0], [6, 0, 4], [7, 0, 1]]:
            with self.subTest(test=test):
                self.assertEqual(last(*calls, take(clause(name(0), test))), [2])
        for pattern in [number(4), word(4), token(3), row(token(4))]:
            with self.subTest(pattern=pattern):
                self.assertEqual(last(*calls, take(clause(pattern))), [2])
        self.assertEqual(last(*calls, take(clause(name(0), [5, 0, 4], [7, 0, 0]))), [1, 0, 1])
        self.assertEqual(last(*calls, take(clause(token(4)))), [1, 0, 1])

    def test_a_pattern_may_have_one_that_was_not_made_yet(self):
        self.assertEqual(ask(send(number(1)), take(clause(token(0)), clause(token(1000))), take(clause(token(1001)))),
                         [[0], [2], [-1]])

    def test_an_answer_that_is_waited_for(self):
        """What it all stands for: one asks with a token like no other, and passes over all other letters."""
        self.assertEqual(ask(send(word(1)), send(word(2)), make(), receive(1, 9, clause(row(token(0), name(0)))),
                             send(word(3)), ticks(5), send(row(token(0), number(7))), names(), box(), counts()),
                         [[0], [0], [0], [0], [0], [0], [1, 3, 1], values(n0=number(7)),
                          letters(word(1), word(2), word(3)), [4, 1, 2, 0]])


class Refused(unittest.TestCase):
    def test_while_it_waits(self):
        for wait in [receive(0, 0, clause(word(9))), receive(1, 3, clause(word(9)))]:
            with self.subTest(wait=wait):
                got = ask(make(), send(number(1)), take(clause(name(0))), send(number(2)), wait, *SEEN, make(), *SEEN,
                          make(), send(token(1)), send(token(0)), stop(), make())
                self.assertEqual([got[8]] + got[12:], [[-8], [-8], [-3], [0], [0], [1]])
                self.assertEqual(got[5:8], got[9:12])
                self.assertEqual(got[9:12], [values(n0=number(1)), letters(number(2)), [2, 1, 2, 1]])

    def test_it_does_not_end_waiting_nor_stop_its_time(self):
        self.assertEqual(ask(receive(1, 3, clause(ANYTHING)), ticks(2), make(), ticks(1), make()),
                         [[0], [0], [-8], [2], [0]])

    def test_1001_are_made_and_no_more(self):
        got = ask_long(*[make()] * MANY, send(token(1000)), *SEEN, make(), *SEEN, make(), send(token(1001)),
                       take(clause(token(1000))))
        self.assertEqual(got[:MANY], [[n] for n in range(MANY)])
        self.assertEqual(got[MANY], [0])
        self.assertEqual(got[MANY + 4], [-6])
        self.assertEqual(got[MANY + 1:MANY + 4], got[MANY + 5:MANY + 8])
        self.assertEqual(got[MANY + 8:], [[-6], [-1], [1, 0, 1]])

    def test_after_1001_the_mark_is_where_it_was(self):
        got = ask_long(send(number(1)), *[make()] * MANY, send(number(2)), make(), take(clause(token(1000))), counts(),
                       take(clause(token(999))), counts())
        self.assertEqual(got[-5:], [[-6], [2], [2, 0, 1, 0], [2], [2, 0, 3, 0]])

    def test_waiting_comes_before_1001(self):
        got = ask_long(*[make()] * MANY, receive(0, 0, clause(ANYTHING)), make(), stop(), make(), begin(), make())
        self.assertEqual(got[MANY:], [[0], [-8], [0], [-6], [0], [0]])


if __name__ == "__main__":
    unittest.main()
