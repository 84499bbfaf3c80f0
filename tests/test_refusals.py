"""A refusal is one number below 0, and all is as it was then: what is asked later is answered as if it hadn't been."""

import unittest

from telling import (ANYTHING, SEEN, TOP, ask, begin, box, clause, counts, forget, make, name, names, number, receive, row,
                     send, stop, take, ticks, token, word)

ANY = clause(ANYTHING)
WRONG_SENDS = [(send([]), -1), (send(number(1000001)), -1), (send([0, 1, 0]), -1), (send([3, 2, 0, 1]), -1),
               (send([4]), -1), (send([TOP] * 64), -1), (send(token(1001)), -1), (send(row(token(2), ANYTHING)), -1),
               (send(token(2)), -3), (send(row(word(1), token(1000))), -3)]
WRONG_TICKS = [(ticks(0), -1), (ticks(1001), -1), (ticks(TOP), -1)]
WRONG_RECEIVES = [(receive(2, 0, ANY), -2), (receive(0, 1001, ANY), -2), (receive(1, TOP, []), -2),
                  (receive(0, 0), -1), (receive(1, 0, ANY * 7), -1), (receive(0, 0, clause(name(0)) + [5]), -1),
                  (receive(0, 0, clause(name(5)) + clause(name(10))), -1), (receive(0, 0, clause(name(5), [8, 0, 0])), -1)]
IDLE = [send(number(1)), send(row(number(2), word(3))), make(), take(clause(row(name(0), ANYTHING))), send(word(4)),
        make(), send(token(1)), send(row(token(1), number(5))), take(clause(name(1), [5, 1, 0]))]
WAITING = IDLE + [receive(1, 3, clause(row(name(2), word(9))), clause(word(8)))]
LATER = [ticks(2), send(word(7)), send(word(8)), make(), forget(0), send(row(number(2), word(9))), take(clause(name(1))),
         receive(1, 2, clause(row(name(1), name(3)))), ticks(1), ticks(1), stop(), take(clause(name(0))),
         receive(0, 0, clause(row(ANYTHING, name(0), ANYTHING))), send(word(1)), stop(), make(), *SEEN]
LATER_OVER = [ticks(3), *LATER]


class AllIsAsItWas(unittest.TestCase):
    def check(self, before, wrong, later):
        plain = ask(*before, *SEEN, *later)
        for call, given in wrong:
            with self.subTest(call=call):
                got = ask(*before, call, *SEEN, *later)
                self.assertEqual(got[len(before)], [given])
                self.assertEqual(got[:len(before)] + got[len(before) + 1:], plain)

    def check_each_later(self, before, wrong):
        for later in [LATER, LATER_OVER]:
            self.check(before, wrong, later)

    def test_while_it_does_not_wait(self):
        wrong = WRONG_SENDS + WRONG_TICKS + WRONG_RECEIVES + [(stop(), -8), (forget(10), -1), (forget(TOP), -1)]
        self.check_each_later(IDLE, wrong)

    def test_while_it_waits(self):
        wrong = WRONG_SENDS + WRONG_TICKS + [(call, -8) for call, given in WRONG_RECEIVES]
        wrong += [(receive(0, 0, ANY), -8), (take(clause(name(5))), -8), (make(), -8), (forget(0), -8), (forget(1), -8),
                  (forget(5), -8), (forget(10), -8), (forget(TOP), -8)]
        self.check_each_later(WAITING, wrong)

    def test_at_the_beginning(self):
        wrong = WRONG_SENDS + WRONG_TICKS + WRONG_RECEIVES + [(send(token(0)), -3), (stop(), -8), (forget(10), -1)]
        self.check_each_later([begin()], wrong)

    def test_all_of_them_one_behind_another(self):
        wrong = WRONG_SENDS + WRONG_TICKS + WRONG_RECEIVES + [(stop(), -8), (forget(10), -1)]
        got = ask(*IDLE, *[call for call, given in wrong], *LATER)
        self.assertEqual(got[len(IDLE):len(IDLE) + len(wrong)], [[given] for call, given in wrong])
        self.assertEqual(got[len(IDLE) + len(wrong):], ask(*IDLE, *LATER)[len(IDLE):])

    def test_what_is_asked_later_tells_much(self):
        """The calls above are taken, refused, waited for: else they would show little."""
        for before in [IDLE, WAITING]:
            with self.subTest(before=before):
                got = ask(*before, *LATER)[len(before):]
                self.assertIn([2], got)
                self.assertGreaterEqual(len([one for one in got if len(one) == 3]), 1)
                self.assertTrue([one for one in got if one[0] < 0])


class WhatIsNoRefusal(unittest.TestCase):
    def test_nothing_else_is_below_0(self):
        for calls in [IDLE + LATER, WAITING + LATER_OVER]:
            for one in ask(*calls, names(), box(), counts()):
                if len(one) > 1:
                    self.assertGreaterEqual(min(one), 0)
                else:
                    self.assertIn(one[0], [0, 1, 2, 3, -1, -3, -8])


if __name__ == "__main__":
    unittest.main()
