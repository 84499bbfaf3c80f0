"""The interface: how calls are handed in, and how answers stand in the list that is given back."""

import contextlib
import io
import unittest

from pickedletters.process import answers
from telling import ANYTHING, ask, begin, clause, name, number, receive, row, send, split, stop, take, ticks, word

MIXED = [send(row(number(1), word(2))), receive(0, 0, clause(name(0))), receive(1, 5, clause(number(1))), ticks(2),
         send([]), stop(), begin(), stop(), take(clause(ANYTHING)), receive(1, 3, clause(name(1), [3, 1, 0])),
         send(word(3)), send(number(4)), ticks(0), receive(2, 0), receive(0, 0), send([2, 0])]
MIXED_ANSWERS = [[0], [1, 0, 1], [0], [0], [-1], [0], [0], [-8], [2], [0], [0], [1, 1, 1], [-1], [-2], [-1], [-3]]


class TheList(unittest.TestCase):
    def test_as_it_stands_number_by_number(self):
        self.assertEqual(answers([0]), [1, 0])
        self.assertEqual(answers([4]), [1, -8])
        self.assertEqual(answers([3, 1]), [1, 0])
        self.assertEqual(answers([1, 2, 0, 5, 1, 2, 1, 5, 2, 0, 0, 3, 1, 5, 0, 4]), [1, 0, 1, 0, 3, 1, 1, 1, 1, -8])
        self.assertEqual(answers([2, 1, 7, 5, 5, 3, 1, 4, 3]), [1, -1])
        self.assertEqual(answers([2, 1, 7, 5, 4, 1, 4, 3, 0, 1, 1, 0, 3, 7]), [1, 0, 1, -1, 1, 2])

    def test_calls_of_all_kinds(self):
        self.assertEqual(ask(*MIXED), MIXED_ANSWERS)

    def test_rows_of_any_length_are_passed_over(self):
        for many in range(65):
            with self.subTest(send=many):
                self.assertEqual(split(answers(send([4] * many) + ticks(1) + stop())), [[-1], [0], [-8]])
        for many in range(105):
            with self.subTest(receive=many):
                self.assertEqual(split(answers(receive(0, 0, [6] * many) + ticks(1) + stop())), [[-1], [0], [-8]])

    def test_60_calls(self):
        self.assertEqual(answers([0] * 60), [1, 0] * 60)
        self.assertEqual(answers(stop() * 60), [1, -8] * 60)
        halves = [send(number(1)), take(clause(ANYTHING))] * 30
        self.assertEqual(ask(*halves), [[0], [1, 0, 1]] * 30)

    def test_60_calls_as_long_as_they_may_be(self):
        calls = receive(0, 0, [4294967295] * 104) * 60
        self.assertLessEqual(len(calls), 6500)
        self.assertEqual(answers(calls), [1, -1] * 60)

    def test_begin_in_the_middle_makes_all_new(self):
        rest = [ticks(1), send(word(3)), take(clause(name(0))), stop(), receive(1, 1, clause(number(1))), ticks(1)]
        for end in range(len(MIXED) + 1):
            with self.subTest(end=end):
                got = ask(*MIXED[:end], begin(), *rest)
                self.assertEqual(got, MIXED_ANSWERS[:end] + [[0]] + ask(*rest))


class WhatIsHandedIn(unittest.TestCase):
    def test_it_is_the_same_afterwards(self):
        calls = sum(MIXED, [])
        before = list(calls)
        answers(calls)
        self.assertEqual(calls, before)

    def test_it_is_not_changed_for_a_while_either(self):
        class Watched(list):
            def refuse(self, *given):
                raise AssertionError("what is handed in was changed")
            __setitem__ = __delitem__ = __iadd__ = __imul__ = refuse
            append = extend = insert = pop = remove = clear = reverse = sort = refuse
        self.assertEqual(split(answers(Watched(sum(MIXED, [])))), MIXED_ANSWERS)

    def test_a_second_time_answers_as_the_first(self):
        waiting = sum([send(number(1)), take(clause(name(0))), send(number(2)), receive(1, 5, clause(word(1)))], [])
        new = sum([stop(), ticks(5), take(clause(ANYTHING)), send(number(2)), take(clause(name(0)))], [])
        first = [answers(waiting), answers(new)]
        self.assertEqual(split(first[1]), [[-8], [0], [2], [0], [1, 0, 1]])
        self.assertEqual([answers(waiting), answers(new)], first)
        self.assertEqual([answers(new), answers(waiting)], first[::-1])

    def test_what_is_given_back_is_a_new_list_of_whole_numbers(self):
        calls = sum(MIXED, [])
        given = answers(calls)
        self.assertIs(type(given), list)
        self.assertEqual({type(n) for n in given}, {int})
        given.append(7)
        self.assertEqual(split(answers(calls)), MIXED_ANSWERS)

    def test_nothing_is_printed(self):
        out = io.StringIO()
        with contextlib.redirect_stdout(out), contextlib.redirect_stderr(out):
            answers(sum(MIXED, []))
        self.assertEqual(out.getvalue(), "")


if __name__ == "__main__":
    unittest.main()
