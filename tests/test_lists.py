"""The interface: how calls are handed in, and how answers stand in the list that is given back."""

import contextlib
import io
import unittest

from pickedletters.process import answers
from telling import (ANYTHING, ask, begin, box, clause, counts, forget, letters, make, name, names, number, receive, row,
                     send, split, stop, take, ticks, token, values, word)

# Each call with what it answers.
STEPS = [
    (send(row(number(1), word(2))), [0]),
    (receive(0, 0, clause(name(0))), [1, 0, 1]),
    (names(), values(n0=row(number(1), word(2)))),
    (receive(1, 5, clause(number(1))), [0]),
    (ticks(2), [0]),
    (make(), [-8]),
    (forget(0), [-8]),
    (send([]), [-1]),
    (counts(), [1, 1, 1, 1]),
    (stop(), [0]),
    (forget(0), [1]),
    (forget(10), [-1]),
    (make(), [0]),
    (send(row(token(0))), [0]),
    (box(), letters(row(token(0)))),
    (begin(), [0]),
    (stop(), [-8]),
    (send(token(0)), [-3]),
    (take(clause(ANYTHING)), [2]),
    (receive(1, 3, clause(name(1), [3, 1, 0])), [0]),
    (send(word(3)), [0]),
    (send(number(4)), [1, 1, 1]),
    (names(), values(n1=number(4))),
    (ticks(0), [-1]),
    (receive(2, 0), [-2]),
    (receive(0, 0), [-1]),
    (send(token(0)), [-3]),
    (make(), [0]),
    (send(row(token(0), number(6))), [0]),
    (send(number(6)), [0]),
    (box(), letters(word(3), row(token(0), number(6)), number(6))),
    (counts(), [4, 1, 2, 0]),
    (receive(0, 0, clause(row(token(0), name(1))), clause(row(name(2), name(3)))), [1, 1, 2]),
    (names(), values(n1=number(4), n2=token(0), n3=number(6))),
    (counts(), [4, 2, 4, 0]),
    (receive(1, 9, clause(row(name(2), ANYTHING))), [0]),
    (counts(), [4, 2, 5, 1]),
    (ticks(8), [0]),
    (send(row(token(0), row())), [1, 2, 1]),
    (ticks(8), [0]),
    (forget(2), [1]),
    (forget(2), [0]),
    (make(), [1]),
    (take(clause(token(1))), [2]),
    (counts(), [5, 3, 6, 0]),
    (send(token(1)), [0]),
    (take(clause(name(2), [5, 2, 0])), [1, 2, 1]),
    (names(), values(n1=number(4), n2=token(1), n3=number(6))),
    (receive(1, 1, clause(name(2))), [0]),
    (counts(), [6, 4, 9, 1]),
    (send(token(0)), [0]),
    (ticks(1), [2]),
    (take(clause(name(3))), [1, 1, 1]),
    (box(), letters(word(3), token(0))),
    (stop(), [-8]),
    (take(clause(name(0), [7, 0, 2]), clause(name(0), [5, 0, 0])), [1, 1, 2]),
    (begin(), [0]),
    (names(), values()),
    (box(), letters()),
    (counts(), [0, 0, 0, 0]),
]
MIXED = [call for call, given in STEPS]
MIXED_ANSWERS = [given for call, given in STEPS]


class TheList(unittest.TestCase):
    def test_as_it_stands_number_by_number(self):
        self.assertEqual(answers([0]), [1, 0])
        self.assertEqual(answers([4]), [1, -8])
        self.assertEqual(answers([3, 1]), [1, 0])
        self.assertEqual(answers([1, 2, 0, 5, 1, 2, 1, 5, 2, 0, 0, 3, 1, 5, 0, 4]), [1, 0, 1, 0, 3, 1, 1, 1, 1, -8])
        self.assertEqual(answers([2, 1, 7, 5, 5, 3, 1, 4, 3]), [1, -1])
        self.assertEqual(answers([2, 1, 7, 5, 4, 1, 4, 3, 0, 1, 1, 0, 3, 7]), [1, 0, 1, -1, 1, 2])
        self.assertEqual(answers([5, 5, 7, 3, 7, 10]), [1, 0, 1, 1, 1, 0, 1, -1])
        self.assertEqual(answers([6, 8, 9]), [10, 9, 9, 9, 9, 9, 9, 9, 9, 9, 9, 1, 0, 4, 0, 0, 0, 0])
        self.assertEqual(answers([1, 4, 3, 1, 1, 2, 1, 2, 0, 5, 2, 0, 0, 5, 3, 1, 5, 8, 0, 6, 8, 9]),
                         [1, 0, 1, 0, 3, 1, 0, 1, 11, 9, 9, 9, 9, 9, 9, 9, 9, 1, 2, 9, 3, 1, 0, 5, 4, 2, 1, 1, 0])

    def test_60_calls_of_all_kinds(self):
        self.assertEqual(len(MIXED), 60)
        self.assertEqual({call[0] for call in MIXED}, set(range(10)))
        self.assertEqual(ask(*MIXED), MIXED_ANSWERS)

    def test_lists_of_1_to_60_calls(self):
        for end in range(1, 61):
            with self.subTest(end=end):
                self.assertEqual(ask(*MIXED[:end]), MIXED_ANSWERS[:end])

    def test_each_call_alone(self):
        for call, given in [(begin(), [0]), (send(word(1)), [0]), (receive(0, 0, clause(ANYTHING)), [0]), (ticks(1), [0]),
                            (stop(), [-8]), (make(), [0]), (names(), [9] * 10), (forget(9), [0]), (box(), [0]),
                            (counts(), [0, 0, 0, 0])]:
            with self.subTest(call=call):
                self.assertEqual(answers(call), [len(given)] + given)

    def test_each_call_behind_each(self):
        one_of_each = [begin(), send(word(1)), receive(0, 0, clause(word(2))), ticks(1), stop(), make(), names(),
                       forget(0), box(), counts()]
        for first in one_of_each:
            for second in one_of_each:
                with self.subTest(first=first, second=second):
                    self.assertEqual(len(ask(first, second, ticks(1001))), 3)
                    self.assertEqual(ask(first, second, ticks(1001))[-1], [-1])

    def test_rows_of_any_length_are_passed_over(self):
        for many in range(65):
            with self.subTest(send=many):
                self.assertEqual(split(answers(send([4] * many) + ticks(1) + stop())), [[-1], [0], [-8]])
        for many in range(105):
            with self.subTest(receive=many):
                self.assertEqual(split(answers(receive(0, 0, [6] * many) + ticks(1) + stop())), [[-1], [0], [-8]])

    def test_60_calls(self):
        self.assertEqual(answers([0] * 60), [1, 0] * 60)
        self.assertEqual(answers(stop() * 60), [1, -8] * 60)
        self.assertEqual(ask(*[names()] * 60), [[9] * 10] * 60)
        self.assertEqual(ask(*[box(), counts()] * 30), [[0], [0, 0, 0, 0]] * 30)
        halves = [send(number(1)), take(clause(ANYTHING))] * 30
        self.assertEqual(ask(*halves), [[0], [1, 0, 1]] * 30)

    def test_60_calls_as_long_as_they_may_be(self):
        calls = receive(0, 0, [4294967295] * 104) * 60
        self.assertLessEqual(len(calls), 6500)
        self.assertEqual(answers(calls), [1, -1] * 60)

    def test_begin_in_the_middle_makes_all_new(self):
        rest = [names(), box(), counts(), ticks(1), send(word(3)), take(clause(token(0))), counts(), send(token(0)), make(),
                take(clause(name(0))), stop(), receive(1, 1, clause(number(1))), ticks(1), names(), box(), counts()]
        alone = ask(*rest)
        for end in range(60 - len(rest)):
            with self.subTest(end=end):
                got = ask(*MIXED[:end], begin(), *rest)
                self.assertEqual(got, MIXED_ANSWERS[:end] + [[0]] + alone)


class WhatIsHandedIn(unittest.TestCase):
    def test_it_is_the_same_afterwards(self):
        calls = sum(MIXED, [])
        before = list(calls)
        answers(calls)
        self.assertEqual(calls, before)

    def test_it_is_not_changed_for_a_while_either(self):
        class Watched(list):
            def refuse(self, *given):
                raise AssertionError("what is handed in was changed")
            __setitem__ = __delitem__ = __iadd__ = __imul__ = refuse
            append = extend = insert = pop = remove = clear = reverse = sort = refuse
        self.assertEqual(split(answers(Watched(sum(MIXED, [])))), MIXED_ANSWERS)

    def test_a_second_time_answers_as_the_first(self):
        waiting = sum([make(), make(), send(number(1)), take(clause(name(0))), send(number(2)),
                       receive(1, 5, clause(word(1)))], [])
        new = sum([names(), box(), counts(), send(token(0)), make(), stop(), ticks(5), take(clause(ANYTHING)),
                   send(number(2)), take(clause(name(0)))], [])
        first = [answers(waiting), answers(new)]
        self.assertEqual(split(first[1]), [[9] * 10, [0], [0, 0, 0, 0], [-3], [0], [-8], [0], [2], [0], [1, 0, 1]])
        self.assertEqual([answers(waiting), answers(new)], first)
        self.assertEqual([answers(new), answers(waiting)], first[::-1])
        calls = sum(MIXED, [])
        self.assertEqual([split(answers(calls)) for i in range(3)], [MIXED_ANSWERS] * 3)

    def test_what_is_given_back_is_a_new_list_of_whole_numbers(self):
        calls = sum(MIXED, [])
        given = answers(calls)
        self.assertIs(type(given), list)
        self.assertEqual({type(n) for n in given}, {int})
        given.append(7)
        self.assertEqual(split(answers(calls)), MIXED_ANSWERS)

    def test_nothing_is_printed(self):
        out = io.StringIO()
        with contextlib.redirect_stdout(out), contextlib.redirect_stderr(out):
            answers(sum(MIXED, []))
        self.assertEqual(out.getvalue(), "")


if __name__ == "__main__":
    unittest.main()
