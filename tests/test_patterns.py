"""What fits a pattern, what tests hold, and what names are left with."""

import unittest

from telling import ANYTHING, TOP, ask, begin, clause, last, name, nested, number, receive, row, send, take, token, word

LETTERS = [number(0), number(4), number(1000000), word(0), word(4), word(99), row(), row(number(4)), row(word(4)),
           row(number(4), word(4)), row(row(number(4)), word(4)), row(row(number(4), word(4))), nested(8, number(4)),
           nested(8, row())]


def takes(letter, *told):
    return last(send(letter), take(clause(*told))) == [1, 0, 1]


class Fitting(unittest.TestCase):
    def test_a_pattern_without_names_fits_what_is_the_same(self):
        for letter in LETTERS:
            for pattern in LETTERS:
                with self.subTest(letter=letter, pattern=pattern):
                    self.assertEqual(takes(letter, pattern), letter == pattern)

    def test_anything_fits_all(self):
        for letter in LETTERS:
            with self.subTest(letter=letter):
                self.assertTrue(takes(letter, ANYTHING))

    def test_anything_in_a_row_stands_for_one_whole_term(self):
        for letter in LETTERS[:-2]:
            with self.subTest(letter=letter):
                self.assertTrue(takes(row(word(1), letter, word(2)), row(word(1), ANYTHING, word(2))))
                self.assertFalse(takes(row(word(1), letter, word(3)), row(word(1), ANYTHING, word(2))))
                self.assertTrue(takes(row(letter, letter), row(ANYTHING, ANYTHING)))
                self.assertFalse(takes(row(letter, letter), row(ANYTHING)))
                self.assertFalse(takes(row(letter), row(ANYTHING, ANYTHING)))
                self.assertFalse(takes(row(), row(ANYTHING)))

    def test_rows_within_rows(self):
        letter = row(row(number(1), row()), row(row(number(2)), number(3)), number(4))
        self.assertTrue(takes(letter, row(row(number(1), row()), ANYTHING, number(4))))
        self.assertTrue(takes(letter, row(ANYTHING, row(row(ANYTHING), number(3)), ANYTHING)))
        self.assertFalse(takes(letter, row(ANYTHING, row(row(ANYTHING), number(2)), ANYTHING)))
        self.assertFalse(takes(letter, row(ANYTHING, row(row(), number(3)), ANYTHING)))

    def test_patterns_8_deep(self):
        self.assertTrue(takes(nested(8, number(5)), nested(8, ANYTHING)))
        self.assertTrue(takes(nested(8, number(5)), nested(8, name(9)), [0, 9, 5]))
        self.assertTrue(takes(nested(8, row()), nested(7, ANYTHING)))
        self.assertFalse(takes(nested(7, number(5)), nested(8, ANYTHING)))

    def test_a_token_that_was_not_made_is_in_no_letter(self):
        for n in [0, 4, 1000]:
            with self.subTest(n=n):
                self.assertEqual(last(send(number(n)), send(word(4)), send(row(number(n))), take(clause(token(n)))), [2])


class Names(unittest.TestCase):
    def test_a_name_without_value_gets_the_term(self):
        for n in range(10):
            for letter in LETTERS:
                with self.subTest(n=n, letter=letter):
                    self.assertEqual(ask(send(letter), take(clause(name(n))),
                                         *[send(other) for other in LETTERS], take(clause(name(n))))[-1],
                                     [1, LETTERS.index(letter), 1])

    def test_a_name_gets_a_whole_term_out_of_a_row(self):
        for letter in LETTERS[:-2]:
            with self.subTest(letter=letter):
                got = ask(send(row(letter, number(8))), take(clause(row(name(3), name(4)))),
                          send(row(number(8), letter)), take(clause(row(name(3), name(4)))),
                          send(row(number(8), letter)), take(clause(row(name(4), name(3)))))
                self.assertEqual(got[3:], [[2], [0], [1, 0, 1]])

    def test_a_name_that_has_a_value_fits_that_alone(self):
        self.assertEqual(ask(send(number(1)), take(clause(name(0))), send(number(2)), send(word(1)), send(row(number(1))),
                             take(clause(name(0))), send(number(1)), take(clause(name(0)))),
                         [[0], [1, 0, 1], [0], [0], [0], [2], [0], [1, 3, 1]])

    def test_names_are_apart_from_one_another(self):
        self.assertEqual(ask(send(number(1)), take(clause(name(0))), send(number(2)), take(clause(name(0))),
                             take(clause(name(9))), send(number(2)), take(clause(name(0)), clause(name(9)))),
                         [[0], [1, 0, 1], [0], [2], [1, 0, 1], [0], [1, 0, 2]])

    def test_a_name_twice_in_a_pattern_is_the_same_both_times(self):
        pair = row(name(2), name(2))
        for letter in LETTERS[:-2]:
            with self.subTest(letter=letter):
                self.assertTrue(takes(row(letter, letter), pair))
                self.assertFalse(takes(row(letter, number(77)), pair))
                self.assertFalse(takes(row(number(77), letter), pair))
        self.assertTrue(takes(row(row(number(1), word(2)), row(word(2), number(1))),
                              row(row(name(0), name(1)), row(name(1), name(0)))))
        self.assertFalse(takes(row(row(number(1), word(2)), row(number(1), word(2))),
                               row(row(name(0), name(1)), row(name(1), name(0)))))

    def test_what_does_not_fit_leaves_names_as_they_were(self):
        self.assertEqual(ask(send(row(number(1), number(2))), take(clause(row(name(0), number(3)))),
                             send(word(5)), take(clause(name(0), [4, 0, 0])), take(clause(row(name(1), name(2))))),
                         [[0], [2], [0], [1, 1, 1], [1, 0, 1]])

    def test_a_clause_that_does_not_fit_gives_the_next_one_nothing(self):
        self.assertEqual(ask(send(row(number(1), number(2))),
                             take(clause(row(name(0), number(3))), clause(row(number(1), name(0)))),
                             send(number(1)), send(number(2)), take(clause(name(0)))),
                         [[0], [1, 0, 2], [0], [0], [1, 1, 1]])

    def test_a_clause_whose_test_does_not_hold_gives_the_next_one_nothing(self):
        self.assertEqual(ask(send(row(number(1), number(2))),
                             take(clause(row(name(0), ANYTHING), [0, 0, 2]), clause(row(ANYTHING, name(0)), [0, 0, 2])),
                             send(number(1)), send(number(2)), take(clause(name(0)))),
                         [[0], [1, 0, 2], [0], [0], [1, 1, 1]])

    def test_a_letter_that_is_left_gives_the_next_one_nothing(self):
        self.assertEqual(ask(send(number(1)), send(number(2)), take(clause(name(0), [0, 0, 2])),
                             take(clause(name(0))), send(number(2)), take(clause(name(0)))),
                         [[0], [0], [1, 1, 1], [2], [0], [1, 1, 1]])

    def test_waiting_gives_no_values_but_by_taking(self):
        self.assertEqual(ask(receive(0, 0, clause(row(name(0), name(0)))), send(row(number(1), number(2))),
                             send(row(number(3), number(3))), send(number(1)), send(number(3)), take(clause(name(0)))),
                         [[0], [0], [1, 1, 1], [0], [0], [1, 2, 1]])

    def test_begin_takes_all_values(self):
        self.assertEqual(ask(send(number(1)), take(clause(name(0))), begin(), send(number(2)), take(clause(name(0)))),
                         [[0], [1, 0, 1], [0], [0], [1, 0, 1]])


class Tests(unittest.TestCase):
    """A letter is taken by a name's pattern, so the name has it as value when the tests are asked."""

    def check(self, what, n, right):
        for letter in LETTERS:
            for which in [0, 9]:
                with self.subTest(what=what, n=n, letter=letter, name=which):
                    self.assertEqual(takes(letter, name(which), [what, which, n]), letter in right)

    def test_0_the_number_n(self):
        self.check(0, 0, [number(0)])
        self.check(0, 4, [number(4)])
        self.check(0, 1000000, [number(1000000)])
        self.check(0, 5, [])
        self.check(0, TOP, [])

    def test_1_a_number_below_n(self):
        self.check(1, 0, [])
        self.check(1, 1, [number(0)])
        self.check(1, 4, [number(0)])
        self.check(1, 5, [number(0), number(4)])
        self.check(1, 1000000, [number(0), number(4)])
        self.check(1, TOP, [number(0), number(4), number(1000000)])

    def test_2_a_number_above_n(self):
        self.check(2, 0, [number(4), number(1000000)])
        self.check(2, 3, [number(4), number(1000000)])
        self.check(2, 4, [number(1000000)])
        self.check(2, 999999, [number(1000000)])
        self.check(2, 1000000, [])
        self.check(2, TOP, [])

    def test_3_a_number_whatever_n_is(self):
        for n in [0, 4, 10, TOP]:
            self.check(3, n, [number(0), number(4), number(1000000)])

    def test_4_a_word_whatever_n_is(self):
        for n in [0, 4, 10, TOP]:
            self.check(4, n, [word(0), word(4), word(99)])

    def test_5_a_token_whatever_n_is(self):
        for n in [0, 4, 10, TOP]:
            self.check(5, n, [])

    def test_6_a_row_of_n_terms(self):
        self.check(6, 0, [row()])
        self.check(6, 1, [row(number(4)), row(word(4)), row(row(number(4), word(4))), nested(8, number(4)),
                          nested(8, row())])
        self.check(6, 2, [row(number(4), word(4)), row(row(number(4)), word(4))])
        self.check(6, 4, [])
        self.check(6, TOP, [])
        eight = row(*[word(1)] * 8)
        self.assertTrue(takes(eight, name(0), [6, 0, 8]))
        self.assertFalse(takes(eight, name(0), [6, 0, 7]))

    def test_7_the_value_of_another_name(self):
        for one in LETTERS[:-2]:
            for other in LETTERS[:-2]:
                with self.subTest(one=one, other=other):
                    self.assertEqual(takes(row(one, other), row(name(0), name(9)), [7, 0, 9]), one == other)
                    self.assertEqual(takes(row(one, other), row(name(0), name(9)), [7, 9, 0]), one == other)

    def test_7_of_a_name_and_itself(self):
        self.assertTrue(takes(number(1), name(5), [7, 5, 5]))
        self.assertFalse(takes(number(1), name(5), [7, 4, 4]))

    def test_7_of_a_name_without_value(self):
        self.assertFalse(takes(number(1), name(5), [7, 5, 4]))
        self.assertFalse(takes(number(1), name(5), [7, 4, 5]))

    def test_no_test_of_a_name_without_value_holds(self):
        for what in range(8):
            for n in range(10):
                for letter in [number(0), number(1), word(0), row()]:
                    with self.subTest(what=what, n=n, letter=letter):
                        self.assertFalse(takes(letter, ANYTHING, [what, 3, n]))
                        self.assertFalse(takes(letter, name(0), [what, 3, n]))

    def test_a_value_from_before_is_asked_too(self):
        self.assertEqual(ask(send(number(6)), take(clause(name(1))), send(word(2)), take(clause(ANYTHING, [0, 1, 7])),
                             take(clause(name(2), [0, 1, 6], [4, 2, 0])), take(clause(ANYTHING, [3, 1, 0]))),
                         [[0], [1, 0, 1], [0], [2], [1, 0, 1], [2]])

    def test_all_of_up_to_4_tests_must_hold(self):
        held = [[3, 0, 0], [1, 0, 5], [2, 0, 3], [0, 0, 4]]
        for many in range(5):
            with self.subTest(many=many):
                self.assertTrue(takes(number(4), name(0), *held[:many]))
            for place in range(many):
                with self.subTest(many=many, place=place):
                    self.assertFalse(takes(number(4), name(0), *held[:place], [4, 0, 0], *held[place + 1:many]))


if __name__ == "__main__":
    unittest.main()
