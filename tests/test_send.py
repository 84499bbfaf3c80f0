"""Promise 1: what send takes and refuses; and what a term is."""

import unittest

from telling import (ANYTHING, TOP, ask, ask_long, begin, clause, last, name, nested, number, receive, row, send, stop, take,
                     ticks, token, word)

LONGEST = row(*[row(number(1), number(2), number(3)) for i in range(7)], number(4))
WRONG_TERMS = {
    "nothing": [],
    "a kind alone": [0],
    "a word's kind alone": [1],
    "a token's kind alone": [2],
    "a row's kind alone": [3],
    "a number too high": number(1000001),
    "a number at the top": number(TOP),
    "a word too high": word(100),
    "a word at the top": word(TOP),
    "a token too high": token(1001),
    "a token at the top": token(TOP),
    "a row too long": row(*[number(0)] * 9),
    "a row's length at the top": [3, TOP],
    "anything": ANYTHING,
    "anything and a number": [4, 0],
    "a name": name(0),
    "no kind": [6, 0],
    "the top as kind": [TOP, 0],
    "a number behind a number": number(1) + [0],
    "a term behind a term": number(1) + number(2),
    "a term behind a row": row(number(1)) + number(2),
    "a term behind a row without terms": row() + number(2),
    "a row that lacks a term": [3, 2, 0, 1],
    "a row that lacks half a term": [3, 2, 0, 1, 0],
    "a row that lacks all": [3, 1],
    "a wrong term in a row": row(number(1), word(100)),
    "anything in a row": row(number(1), ANYTHING),
    "a name in a row": row(name(0), number(1)),
    "a row in a row that lacks a term": [3, 2, 3, 2, 0, 1, 0, 1],
    "9 deep": nested(9, number(5)),
    "9 deep, a row without terms inmost": nested(9, row()),
    "9 deep, behind what is less deep": row(nested(7, number(5)), nested(8, number(5))),
    "32 deep, and cut off": [3, 1] * 32,
    "62 numbers": row(*[row(number(1), number(2), number(3)) for i in range(7)], row(number(4))),
    "64 numbers": row(*[row(number(1), number(2), number(3)) for i in range(7)], row(number(4), number(5))),
    "61 numbers": LONGEST + [0],
    "64 zeros": [0] * 64,
}
RIGHT_TERMS = {
    "a number": number(7),
    "number 0": number(0),
    "the highest number": number(1000000),
    "word 0": word(0),
    "the highest word": word(99),
    "a row without terms": row(),
    "a row of 8": row(*[number(n) for n in range(8)]),
    "a row of all kinds": row(number(1), word(1), row(), row(row(), number(2))),
    "8 deep": nested(8, number(5)),
    "8 deep, a row without terms inmost": nested(8, row()),
    "8 deep, twice": row(nested(7, number(5)), number(1), nested(7, row())),
    "60 numbers": LONGEST,
}


class WhatIsSent(unittest.TestCase):
    def test_a_letter_is_put_into_the_box(self):
        for what, term in RIGHT_TERMS.items():
            with self.subTest(what):
                self.assertEqual(ask(send(term), take(clause(term))), [[0], [1, 0, 1]])

    def test_what_is_no_term_is_refused_and_not_put_into_the_box(self):
        for what, term in WRONG_TERMS.items():
            with self.subTest(what):
                self.assertEqual(ask(send(number(3)), send(term), take(clause(ANYTHING)), take(clause(ANYTHING))),
                                 [[0], [-1], [1, 0, 1], [2]])

    def test_what_is_no_term_does_not_end_waiting(self):
        for what, term in WRONG_TERMS.items():
            with self.subTest(what):
                self.assertEqual(ask(receive(1, 2, clause(ANYTHING)), send(term), ticks(1), send(word(3)), stop()),
                                 [[0], [-1], [0], [1, 0, 1], [-8]])

    def test_the_longest_term_is_60_numbers(self):
        self.assertEqual(len(LONGEST), 60)
        self.assertEqual(len(WRONG_TERMS["62 numbers"]), 62)

    def test_letters_of_other_kinds_are_not_the_same(self):
        letters = [number(1), word(1), row(number(1)), row(word(1)), row(row(number(1))), row()]
        for place, letter in enumerate(letters):
            with self.subTest(letter=letter):
                self.assertEqual(last(*[send(other) for other in letters], take(clause(letter))), [1, place, 1])


class TokensSent(unittest.TestCase):
    def test_a_token_that_was_not_made_is_refused(self):
        terms = [token(0), token(1), token(1000), row(token(0)), row(number(1), row(word(2), token(1000)), number(3))]
        for term in terms:
            with self.subTest(term=term):
                self.assertEqual(ask(send(term), take(clause(ANYTHING))), [[-3], [2]])
                self.assertEqual(ask(receive(0, 0, clause(ANYTHING)), send(term), send(number(1)), stop()),
                                 [[0], [-3], [1, 0, 1], [-8]])

    def test_what_is_no_term_comes_first(self):
        for term in [token(0) + [1], row(token(0), token(1001)), row(token(0), word(100)), nested(9, token(0)),
                     [3, 2, 2, 0], row(*[row(token(0), token(0), token(0))] * 7, row(token(0)))]:
            with self.subTest(term=term):
                self.assertEqual(last(send(term)), [-1])

    def test_a_2_that_is_no_kind_is_no_token(self):
        self.assertEqual(ask(send(row(number(2), word(2), row(word(0), number(0))))), [[0]])


class AFullBox(unittest.TestCase):
    FILL = [send(number(n)) for n in range(60)]

    def ask_on(self, *calls):
        """A list of more calls than is handed in: only so the box is full and a call follows."""
        return ask_long(*self.FILL, *calls)[60:]

    def test_60_calls_put_60_letters_into_the_box(self):
        self.assertEqual(ask(*self.FILL), [[0]] * 60)

    def test_the_last_of_59_letters_is_found(self):
        self.assertEqual(last(*self.FILL[:59], take(clause(number(58)))), [1, 58, 1])

    def test_a_61st_letter_is_refused(self):
        self.assertEqual(self.ask_on(send(number(60)), take(clause(number(60))), take(clause(number(59))),
                                     send(number(60)), send(number(61)), take(clause(number(60)))),
                         [[-6], [2], [1, 59, 1], [0], [-6], [1, 59, 1]])

    def test_it_is_refused_too_if_it_would_be_taken_at_once(self):
        self.assertEqual(self.ask_on(receive(0, 0, clause(word(1))), send(word(1)), stop(), take(clause(word(1)))),
                         [[0], [-6], [0], [2]])

    def test_other_refusals_come_first(self):
        self.assertEqual(self.ask_on(send([]), send(token(0)), send(token(1001)), begin(), send(number(1))),
                         [[-1], [-3], [-1], [0], [0]])


if __name__ == "__main__":
    unittest.main()
