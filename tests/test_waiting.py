"""Promise 3, of ticks and stop; and how waiting begins and ends."""

import unittest

from telling import ANYTHING, TOP, ask, begin, clause, name, number, receive, row, send, stop, take, ticks, word

ANY = clause(ANYTHING)


class ALetterEndsIt(unittest.TestCase):
    def test_the_letter_that_a_clause_takes(self):
        self.assertEqual(ask(receive(0, 0, clause(word(1)), clause(number(1))), send(word(2)), send(number(1)), stop()),
                         [[0], [0], [1, 1, 2], [-8]])

    def test_by_the_first_clause_that_takes_it(self):
        self.assertEqual(ask(receive(0, 0, clause(word(1)), ANY, clause(number(1)), ANY), send(number(1))),
                         [[0], [1, 0, 2]])

    def test_all_letters_in_the_box_are_ahead_of_it(self):
        self.assertEqual(ask(send(word(1)), send(word(2)), receive(1, 9, clause(number(1))), send(word(3)),
                             send(number(1)), take(ANY), take(ANY), take(ANY), take(ANY)),
                         [[0], [0], [0], [0], [1, 3, 1], [1, 0, 1], [1, 0, 1], [1, 0, 1], [2]])

    def test_a_letter_that_is_not_taken_stays_last(self):
        self.assertEqual(ask(send(word(1)), receive(0, 0, clause(number(1))), send(word(2)), send(word(3)), stop(),
                             take(clause(word(3)), clause(word(2))), take(clause(word(3)), clause(word(1))),
                             take(ANY), take(ANY)),
                         [[0], [0], [0], [0], [0], [1, 1, 2], [1, 0, 2], [1, 0, 1], [2]])

    def test_a_taken_letter_is_not_in_the_box(self):
        self.assertEqual(ask(receive(0, 0, ANY), send(number(1)), take(ANY)), [[0], [1, 0, 1], [2]])

    def test_a_letter_behind_it_is_not_taken(self):
        self.assertEqual(ask(receive(0, 0, ANY), send(number(1)), send(number(2)), take(ANY)),
                         [[0], [1, 0, 1], [0], [1, 0, 1]])

    def test_the_names_have_the_values_it_gives(self):
        self.assertEqual(ask(receive(0, 0, clause(row(name(0), number(1))), clause(row(number(2), name(0)))),
                             send(row(number(2), number(3))), send(number(2)), send(number(3)), take(clause(name(0)))),
                         [[0], [1, 0, 2], [0], [0], [1, 1, 1]])

    def test_the_values_from_before_count_while_it_waits(self):
        self.assertEqual(ask(send(number(7)), take(clause(name(4))), receive(0, 0, clause(row(name(4)), [0, 4, 7])),
                             send(row(number(8))), send(number(7)), send(row(number(7)))),
                         [[0], [1, 0, 1], [0], [0], [0], [1, 2, 1]])

    def test_time_that_was_left_counts_no_more(self):
        self.assertEqual(ask(receive(1, 2, ANY), send(number(1)), ticks(5), receive(0, 0, ANY), ticks(1000), stop()),
                         [[0], [1, 0, 1], [0], [0], [0], [0]])


class TicksEndIt(unittest.TestCase):
    def test_when_so_many_have_passed(self):
        self.assertEqual(ask(receive(1, 3, ANY), ticks(1), ticks(1), ticks(1), ticks(1), stop()),
                         [[0], [0], [0], [2], [0], [-8]])
        self.assertEqual(ask(receive(1, 3, ANY), ticks(3), stop()), [[0], [2], [-8]])
        self.assertEqual(ask(receive(1, 3, ANY), ticks(2), ticks(2), ticks(2)), [[0], [0], [2], [0]])
        self.assertEqual(ask(receive(1, 1, ANY), ticks(1), ticks(1)), [[0], [2], [0]])
        self.assertEqual(ask(receive(1, 1, ANY), ticks(1000), ticks(1000)), [[0], [2], [0]])
        self.assertEqual(ask(receive(1, 1000, ANY), ticks(999), ticks(1), stop()), [[0], [0], [2], [-8]])
        self.assertEqual(ask(receive(1, 1000, ANY), ticks(1000), stop()), [[0], [2], [-8]])

    def test_letters_do_not_change_the_time(self):
        self.assertEqual(ask(receive(1, 2, clause(number(1))), ticks(1), send(word(1)), ticks(1), send(number(1)),
                             take(clause(number(1)))),
                         [[0], [0], [0], [2], [0], [1, 1, 1]])

    def test_a_letter_in_time_is_taken(self):
        self.assertEqual(ask(receive(1, 2, ANY), ticks(1), send(number(1)), ticks(1)), [[0], [0], [1, 0, 1], [0]])

    def test_ticks_from_before_do_not_count(self):
        self.assertEqual(ask(ticks(1000), receive(1, 2, ANY), ticks(1), ticks(1), receive(1, 2, ANY), ticks(1), ticks(1)),
                         [[0], [0], [0], [2], [0], [0], [2]])

    def test_without_an_end_they_never_do(self):
        for n in [0, 1, 1000]:
            with self.subTest(n=n):
                self.assertEqual(ask(receive(0, n, ANY), *[ticks(1000)] * 57, send(number(1)), stop())[1:],
                                 [[0]] * 57 + [[1, 0, 1], [-8]])

    def test_an_end_from_before_does_not_count(self):
        self.assertEqual(ask(receive(1, 2, ANY), stop(), receive(0, 2, ANY), ticks(2), stop()),
                         [[0], [0], [0], [0], [0]])

    def test_time_over_at_once(self):
        self.assertEqual(ask(send(number(1)), receive(1, 0, clause(word(1))), send(word(1)), ticks(1), stop(), take(ANY)),
                         [[0], [2], [0], [0], [-8], [1, 0, 1]])

    def test_if_it_does_not_wait_nothing_is_over(self):
        self.assertEqual(ask(ticks(1), ticks(1000), send(number(1)), ticks(1), take(ANY)),
                         [[0], [0], [0], [0], [1, 0, 1]])

    def test_how_many_may_pass(self):
        for n in [0, 1001, 1002, TOP]:
            with self.subTest(n=n):
                self.assertEqual(ask(ticks(n), receive(1, 2, ANY), ticks(1), ticks(n), stop()),
                                 [[-1], [0], [0], [-1], [0]])
                self.assertEqual(ask(receive(1, 2, ANY), ticks(n), ticks(1), ticks(n), ticks(1)),
                                 [[0], [-1], [0], [-1], [2]])
                self.assertEqual(ask(receive(0, 0, ANY), ticks(n), send(number(1))), [[0], [-1], [1, 0, 1]])
        for n in [1, 1000]:
            self.assertEqual(ask(ticks(n)), [[0]])


class StopEndsIt(unittest.TestCase):
    def test_it_waits_no_more(self):
        for ends in [0, 1]:
            with self.subTest(ends=ends):
                self.assertEqual(ask(receive(ends, 3, clause(number(1))), send(word(1)), stop(), send(number(1)), ticks(5),
                                     stop(), take(clause(number(1))), take(ANY)),
                                 [[0], [0], [0], [0], [0], [-8], [1, 1, 1], [1, 0, 1]])

    def test_it_is_refused_if_it_does_not_wait(self):
        self.assertEqual(ask(stop(), send(number(1)), stop(), take(clause(name(0))), stop(), take(ANY), stop(), stop()),
                         [[-8], [0], [-8], [1, 0, 1], [-8], [2], [-8], [-8]])


class BeginEndsIt(unittest.TestCase):
    def test_it_waits_no_more(self):
        self.assertEqual(ask(receive(0, 0, ANY), begin(), stop()), [[0], [0], [-8]])
        self.assertEqual(ask(receive(0, 0, ANY), begin(), send(number(1)), take(ANY)), [[0], [0], [0], [1, 0, 1]])
        self.assertEqual(ask(receive(1, 1, ANY), begin(), ticks(1)), [[0], [0], [0]])
        self.assertEqual(ask(receive(1, 1, ANY), begin(), receive(0, 0, ANY), ticks(1)), [[0], [0], [0], [0]])


if __name__ == "__main__":
    unittest.main()
