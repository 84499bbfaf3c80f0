"""box: the letters that are there, in their order."""

import unittest

from telling import (ANYTHING, ask, begin, box, clause, counts, forget, last, letters, make, name, names, nested, number,
                     receive, row, send, stop, take, ticks, token, values, word)

ONE_OF_EACH = [number(7), word(0), token(0), row(), row(word(1), row(number(2), token(0))), nested(8, row()),
               number(1000000), word(99)]
SENT = [make()] + [send(letter) for letter in ONE_OF_EACH]


class Box(unittest.TestCase):
    def test_empty(self):
        self.assertEqual(ask(box()), [[0]])

    def test_number_by_number(self):
        self.assertEqual(last(make(), send([0, 7]), send([3, 2, 1, 5, 3, 0]), send([2, 0]), box()),
                         [3, 0, 7, 3, 2, 1, 5, 3, 0, 2, 0])

    def test_letters_of_every_kind_in_the_order_in_which_they_came(self):
        self.assertEqual(last(*SENT, box()), letters(*ONE_OF_EACH))
        self.assertEqual(last(make(), *[send(letter) for letter in ONE_OF_EACH[::-1]], box()),
                         letters(*ONE_OF_EACH[::-1]))

    def test_the_same_letter_twice(self):
        self.assertEqual(last(send(word(1)), send(word(1)), send(number(1)), send(word(1)), box()),
                         letters(word(1), word(1), number(1), word(1)))
        self.assertEqual(last(send(word(1)), send(word(1)), take(clause(word(1))), box()), letters(word(1)))

    def test_after_one_was_taken_out(self):
        for place, letter in enumerate(ONE_OF_EACH):
            with self.subTest(letter=letter):
                left = ONE_OF_EACH[:place] + ONE_OF_EACH[place + 1:]
                self.assertEqual(ask(*SENT, take(clause(letter)), box())[-2:], [[1, place, 1], letters(*left)])

    def test_after_some_were_taken_out_and_others_came(self):
        self.assertEqual(ask(*[send(number(n)) for n in range(5)], take(clause(number(1))), take(clause(number(3))), box(),
                             send(number(1)), box(), take(clause(ANYTHING)), send(row()), box())[7:],
                         [letters(number(0), number(2), number(4)), [0],
                          letters(number(0), number(2), number(4), number(1)), [1, 0, 1], [0],
                          letters(number(2), number(4), number(1), row())])

    def test_after_all_were_taken_out(self):
        self.assertEqual(last(*SENT, *[take(clause(ANYTHING))] * len(ONE_OF_EACH), box()), [0])

    def test_while_it_waits(self):
        self.assertEqual(ask(send(number(1)), receive(1, 3, clause(word(2))), box(), send(number(3)), box(),
                             send(word(2)), box()),
                         [[0], [0], letters(number(1)), [0], letters(number(1), number(3)), [1, 2, 1],
                          letters(number(1), number(3))])

    def test_a_receive_that_takes_none_leaves_it(self):
        for call in [take(clause(word(50))), receive(0, 0, clause(word(50))), receive(1, 5, clause(token(0), [4, 0, 0]))]:
            with self.subTest(call=call):
                self.assertEqual(last(*SENT, call, box()), letters(*ONE_OF_EACH))

    def test_59_letters(self):
        self.assertEqual(last(*[send(number(n)) for n in range(59)], box()), letters(*[number(n) for n in range(59)]))

    def test_59_of_the_longest_letters(self):
        longest = row(*[row(number(1), number(2), number(3)) for i in range(7)], number(4))
        self.assertEqual(last(*[send(longest)] * 59, box()), [59] + longest * 59)

    def test_begin_empties_it(self):
        self.assertEqual(last(*SENT, begin(), box()), [0])

    def test_other_calls_leave_it(self):
        for call in [ticks(3), stop(), make(), names(), forget(0), box(), counts(), send([]), send(token(1)), receive(2, 0)]:
            with self.subTest(call=call):
                self.assertEqual(last(*SENT, call, box()), letters(*ONE_OF_EACH))

    def test_it_changes_nothing(self):
        self.assertEqual(ask(send(number(1)), send(word(2)), take(clause(name(0))), receive(1, 2, clause(word(1))),
                             *[box()] * 4, names(), counts(), ticks(1), send(word(1)))[4:],
                         [letters(word(2))] * 4 + [values(n0=number(1)), [2, 1, 2, 1], [0], [1, 1, 1]])


if __name__ == "__main__":
    unittest.main()
