"""counts: letters sent, taken, looked at; and whether it waits."""

import unittest

from telling import (ANYTHING, TOP, ask, ask_long, begin, box, clause, counts, forget, last, make, name, names, number,
                     receive, row, send, stop, take, ticks, token, word)

ANY = clause(ANYTHING)


def counted(*calls):
    """What counts answers ahead of these calls and behind each of them."""
    return ask(counts(), *[call for one in calls for call in [one, counts()]])[::2]


class Counts(unittest.TestCase):
    def test_at_the_beginning(self):
        self.assertEqual(ask(counts()), [[0, 0, 0, 0]])

    def test_letters_sent(self):
        self.assertEqual(counted(send(number(1)), send(row()), send(word(3))),
                         [[0, 0, 0, 0], [1, 0, 0, 0], [2, 0, 0, 0], [3, 0, 0, 0]])

    def test_letters_taken(self):
        self.assertEqual(counted(send(number(1)), send(number(2)), take(clause(number(2))), take(clause(number(1)))),
                         [[0, 0, 0, 0], [1, 0, 0, 0], [2, 0, 0, 0], [2, 1, 2, 0], [2, 2, 3, 0]])

    def test_taken_at_once_they_are_sent_and_taken(self):
        self.assertEqual(counted(receive(0, 0, ANY), send(number(1)), send(number(2))),
                         [[0, 0, 0, 0], [0, 0, 0, 1], [1, 1, 1, 0], [2, 1, 1, 0]])

    def test_taken_later(self):
        self.assertEqual(counted(receive(0, 0, clause(word(1))), send(number(1)), stop(), take(clause(number(1)))),
                         [[0, 0, 0, 0], [0, 0, 0, 1], [1, 0, 1, 1], [1, 0, 1, 0], [1, 1, 2, 0]])

    def test_refused_they_are_not_sent(self):
        self.assertEqual(counted(send([]), send(token(0)), send(number(1000001)), send([0, 1, 0])), [[0, 0, 0, 0]] * 5)
        self.assertEqual(counted(receive(0, 0, ANY), send([]), send(token(0)))[1:], [[0, 0, 0, 1]] * 3)
        self.assertEqual(ask_long(*[send(number(1))] * 60, counts(), send(number(2)), counts())[60:],
                         [[60, 0, 0, 0], [-6], [60, 0, 0, 0]])

    def test_looked_at_by_a_receive_that_takes_one(self):
        sent = [send(number(n)) for n in range(4)]
        for n in range(4):
            with self.subTest(n=n):
                self.assertEqual(last(*sent, take(clause(number(n))), counts()), [4, 1, n + 1, 0])

    def test_looked_at_by_a_receive_that_takes_none(self):
        for many in range(4):
            with self.subTest(many=many):
                sent = [send(number(n)) for n in range(many)]
                self.assertEqual(last(*sent, take(clause(word(1))), counts()), [many, 0, many, 0])
                self.assertEqual(last(*sent, receive(0, 0, clause(word(1))), counts()), [many, 0, many, 1])

    def test_looked_at_by_a_send_while_it_waits(self):
        self.assertEqual(counted(send(number(1)), send(number(2)), receive(1, 5, clause(word(1))), send(number(3)),
                                 send(word(1)), send(number(4)))[3:],
                         [[2, 0, 2, 1], [3, 0, 3, 1], [4, 1, 4, 0], [5, 1, 4, 0]])

    def test_whether_it_waits(self):
        for wait in [receive(0, 0, clause(word(1))), receive(1, 2, clause(word(1)))]:
            for end in [stop(), send(word(1)), begin()]:
                with self.subTest(wait=wait, end=end):
                    got = counted(wait, ticks(1), send(number(1)), end)
                    self.assertEqual([one[3] for one in got], [0, 1, 1, 1, 0])
        self.assertEqual([one[3] for one in counted(receive(1, 2, ANY), ticks(1), ticks(1))], [0, 1, 1, 0])
        self.assertEqual([one[3] for one in counted(receive(0, 2, ANY), ticks(1), ticks(1))], [0, 1, 1, 1])
        self.assertEqual([one[3] for one in counted(take(ANY))], [0, 0])

    def test_begin_makes_them_0(self):
        self.assertEqual(counted(send(number(1)), send(number(2)), take(ANY), receive(0, 0, clause(word(1))), begin(),
                                 send(number(1)))[3:],
                         [[2, 1, 1, 0], [2, 1, 2, 1], [0, 0, 0, 0], [1, 0, 0, 0]])

    def test_letters_sent_are_those_taken_and_those_in_the_box(self):
        calls = [send(number(1)), send(word(2)), take(clause(word(2))), receive(0, 0, clause(name(0), [4, 0, 0])),
                 send(row()), send([]), send(word(3)), take(clause(row())), make(), send(token(0))]
        for end in range(len(calls) + 1):
            with self.subTest(end=end):
                got = ask(*calls[:end], box(), counts())[-2:]
                self.assertEqual(got[1][0], got[1][1] + got[0][0])

    def test_other_calls_leave_them(self):
        before = [send(number(1)), send(number(2)), take(clause(name(0)))]
        for call in [ticks(1), ticks(0), stop(), make(), names(), forget(0), forget(1), forget(TOP), box(), counts(),
                     receive(2, 0, ANY), receive(0, 0), receive(0, TOP, ANY)]:
            with self.subTest(call=call):
                self.assertEqual(last(*before, call, counts()), [2, 1, 1, 0])

    def test_many(self):
        got = ask(*[send(number(n)) for n in range(29)], *[take(clause(word(1)))] * 30, counts())
        self.assertEqual(got[-1], [29, 0, 29 * 30, 0])


if __name__ == "__main__":
    unittest.main()
