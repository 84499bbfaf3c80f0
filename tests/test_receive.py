"""Promise 2: which letter receive takes, by which clause, and what it refuses."""

import unittest

from telling import (ANYTHING, TOP, ask, begin, clause, last, name, nested, number, receive, row, send, stop, take,
                     ticks, token, word)

ANY = clause(ANYTHING)
# A row of 8 rows of 2, with 4 tests: 2 + 8 * 6 + 1 + 12 = 63 numbers.
LONG = clause(row(*[row(number(1), word(2))] * 8), *[[3, 0, 0]] * 4)
# 4 tests behind a row of 8 numbers: 2 + 16 + 1 + 12 = 31 numbers.
MIDDLE = clause(row(*[number(1)] * 8), *[[3, 0, 0]] * 4)


class WhichIsTaken(unittest.TestCase):
    def test_the_oldest_letter_that_some_clause_takes(self):
        self.assertEqual(ask(send(number(1)), send(number(2)), send(number(3)), send(number(2)),
                             take(clause(number(3)), clause(number(2)))),
                         [[0], [0], [0], [0], [1, 1, 2]])

    def test_it_is_taken_by_the_first_clause_that_takes_it(self):
        self.assertEqual(last(send(number(1)), take(clause(word(1)), ANY, clause(number(1)), ANY)), [1, 0, 2])
        self.assertEqual(last(send(number(1)), take(clause(number(1)), ANY)), [1, 0, 1])

    def test_each_of_6_clauses_may_take_it(self):
        clauses = [clause(number(n)) for n in range(6)]
        for n in range(6):
            with self.subTest(n=n):
                self.assertEqual(last(send(word(1)), send(number(n)), take(*clauses)), [1, 1, n + 1])

    def test_the_others_stay_in_their_order(self):
        letters = [number(n) for n in range(5)]
        for gone in range(5):
            with self.subTest(gone=gone):
                left = [letter for letter in letters if letter != number(gone)]
                got = ask(*[send(letter) for letter in letters], take(clause(number(gone))),
                          *[take(*[clause(letter) for letter in left]) for i in range(4)], take(ANY))
                self.assertEqual(got[5:], [[1, gone, 1], [1, 0, 1], [1, 0, 2], [1, 0, 3], [1, 0, 4], [2]])

    def test_a_taken_letter_is_in_the_box_no_more(self):
        self.assertEqual(ask(send(number(1)), send(number(1)), take(ANY), take(ANY), take(ANY)),
                         [[0], [0], [1, 0, 1], [1, 0, 1], [2]])

    def test_what_is_there_is_taken_whatever_end_is_told(self):
        for ends in [0, 1]:
            for n in [0, 1, 1000]:
                with self.subTest(ends=ends, ticks=n):
                    self.assertEqual(ask(send(number(1)), receive(ends, n, ANY), stop(), take(ANY)),
                                     [[0], [1, 0, 1], [-8], [2]])

    def test_nothing_in_the_box(self):
        self.assertEqual(ask(take(ANY), stop()), [[2], [-8]])

    def test_begin_empties_the_box(self):
        self.assertEqual(ask(send(number(1)), begin(), take(ANY)), [[0], [0], [2]])


class WhatClausesMayBe(unittest.TestCase):
    """What is refused is told with a letter in the box: it is there afterwards, and no name has a value."""

    def check(self, told, right):
        call = [2, 1, 0, len(told)] + told
        got = ask(send(word(50)), call, take(clause(name(0), [4, 0, 0])), stop())
        if right:
            self.assertIn(got[1], [[2], [1, 0, 1]])
        else:
            self.assertEqual(got, [[0], [-1], [1, 0, 1], [-8]])

    def check_all(self, told, right):
        for what in told:
            with self.subTest(what):
                self.check(what, right)

    def test_1_to_6_clauses(self):
        self.check([], False)
        for many in range(1, 7):
            self.check(ANY * many, True)
        self.check(ANY * 7, False)
        self.check(ANY * 52, False)

    def test_99_and_100_numbers(self):
        for short, many in [(clause(ANYTHING, [3, 0, 0]), 99), (clause(word(1), [3, 0, 0]), 100)]:
            with self.subTest(many=many):
                told = LONG + MIDDLE + short
                self.assertEqual(len(told), many)
                self.check(told, True)

    def test_101_to_104_numbers_that_are_clauses(self):
        for over in [clause(ANYTHING, [3, 0, 0]) + ANY, clause(word(1), [3, 0, 0]) + ANY,
                     clause(ANYTHING, [3, 0, 0], [3, 0, 0]), clause(row(ANYTHING), [3, 0, 0]),
                     clause(word(1), [3, 0, 0], [3, 0, 0]), clause(row(word(1)), [3, 0, 0]) + ANY]:
            told = LONG + MIDDLE + over
            with self.subTest(many=len(told)):
                self.assertIn(len(told), range(101, 105))
                self.check(told, False)

    def test_patterns(self):
        self.check_all([clause(pattern) for pattern in [
            number(0), number(1000000), word(0), word(99), token(0), token(1000), row(), row(*[ANYTHING] * 8), ANYTHING,
            name(0), name(9), nested(8, number(1)), nested(8, ANYTHING), nested(8, name(9)), nested(8, row()),
            row(nested(7, ANYTHING), nested(7, name(0)), token(1000), nested(7, row()))]], True)
        self.check_all([clause(pattern) for pattern in [
            number(1000001), number(TOP), word(100), word(TOP), token(1001), token(TOP), row(*[ANYTHING] * 9), [3, TOP],
            name(10), name(TOP), [6], [6, 0], [TOP], [TOP, 0], nested(9, number(1)), nested(9, ANYTHING),
            nested(9, name(0)), nested(9, row()), row(name(0), name(10)), row(ANYTHING, [6]),
            row(nested(7, ANYTHING), nested(8, ANYTHING))]], False)

    def test_tests(self):
        self.check_all([clause(ANYTHING, test) for what in range(7) for which in [0, 9] for n in [0, 9, 10, TOP]
                        for test in [[what, which, n]]], True)
        self.check_all([clause(ANYTHING, [7, which, n]) for which in [0, 9] for n in [0, 9]], True)
        self.check_all([clause(ANYTHING, [7, which, n]) for which in [0, 9] for n in [10, TOP]], False)
        self.check_all([clause(ANYTHING, [what, which, 0]) for what in range(8) for which in [10, TOP]], False)
        self.check_all([clause(ANYTHING, [what, 0, 0]) for what in [8, 9, TOP]], False)

    def test_each_of_the_tests_is_minded(self):
        good = [3, 0, 0]
        for many in range(1, 5):
            for place in range(many):
                for bad in [[8, 0, 0], [3, 10, 0], [7, 0, 10]]:
                    with self.subTest(many=many, place=place, bad=bad):
                        self.check(clause(ANYTHING, *[good] * place, bad, *[good] * (many - place - 1)), False)

    def test_0_to_4_tests(self):
        for many in range(5):
            self.check(clause(ANYTHING, *[[3, 0, 0]] * many), True)
        self.check(clause(ANYTHING, *[[3, 0, 0]] * 5), False)
        self.check([4, TOP], False)
        self.check([4, 5], False)

    def test_every_list_that_ends_too_early(self):
        for whole in [clause(row(ANYTHING, name(1), row(number(1), word(2))), [3, 1, 0], [7, 1, 1]),
                      clause(token(3), [6, 0, 2])]:
            for end in range(len(whole)):
                with self.subTest(whole=whole, end=end):
                    self.check(whole[:end], False)
                    self.check(ANY + whole[:end], end == 0)

    def test_what_goes_on_behind_the_last_clause(self):
        for more in [[0], [4], [5], [3], [9], [TOP], [0, 0], [3, 0], [4, 1], [4, 1, 3], [4, 1, 3, 0], [6, 0, 0], [10, 0]]:
            with self.subTest(more=more):
                self.check(ANY + more, False)
                self.check(clause(word(1), [3, 0, 0]) + more, False)

    def test_a_wrong_clause_behind_right_ones(self):
        for many in range(1, 6):
            for wrong in [clause(word(100)), clause(name(10)), clause(ANYTHING, [8, 0, 0]), [4, 5]]:
                with self.subTest(many=many, wrong=wrong):
                    self.check(ANY * many + wrong, False)
                    self.check(wrong + ANY * many, False)


class WhichRefusal(unittest.TestCase):
    def test_ends_and_ticks(self):
        for ends, n in [(2, 0), (2, 5), (TOP, 0), (0, 1001), (1, 1001), (0, TOP), (1, TOP), (TOP, TOP)]:
            with self.subTest(ends=ends, ticks=n):
                self.assertEqual(ask(send(number(1)), receive(ends, n, ANY), stop(), take(clause(name(0))), take(ANY)),
                                 [[0], [-2], [-8], [1, 0, 1], [2]])
                self.assertEqual(ask(receive(ends, n, ANY), stop()), [[-2], [-8]])

    def test_ends_and_ticks_come_before_the_clauses(self):
        for wrong in [[], [4], ANY * 7, [TOP]]:
            with self.subTest(wrong=wrong):
                self.assertEqual(ask(receive(2, 0, wrong), receive(1, 1001, wrong), receive(0, 1001, wrong),
                                     receive(1, 1000, wrong), receive(0, 0, wrong), stop()),
                                 [[-2], [-2], [-2], [-1], [-1], [-8]])

    def test_waiting_comes_before_all(self):
        for call in [receive(0, 0, ANY), receive(1, 0, ANY), receive(2, 0, ANY), receive(1, 1001, ANY), receive(0, 0),
                     receive(TOP, TOP, [TOP])]:
            with self.subTest(call=call):
                self.assertEqual(ask(send(word(9)), receive(1, 3, clause(number(1))), call, ticks(2), send(word(1)),
                                     call, send(number(1)), stop(), take(ANY)),
                                 [[0], [0], [-8], [0], [0], [-8], [1, 2, 1], [-8], [1, 0, 1]])
                self.assertEqual(ask(receive(1, 3, clause(number(1))), call, ticks(2), call, ticks(1)),
                                 [[0], [-8], [0], [-8], [2]])

    def test_what_may_be(self):
        for ends, n, given in [(0, 0, 0), (0, 1, 0), (0, 1000, 0), (1, 0, 2), (1, 1, 0), (1, 1000, 0)]:
            with self.subTest(ends=ends, ticks=n):
                self.assertEqual(ask(receive(ends, n, ANY)), [[given]])


if __name__ == "__main__":
    unittest.main()
