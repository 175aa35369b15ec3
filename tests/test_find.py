"""Point 4: find, kinds, tables."""

import unittest
from itertools import product

from asking import (
    EXCHANGE, FIND, KINDS, LARGEST, LATER, STATE, TABLE, TABLES, all_closing_words, ask_of, closing_words,
    names_by_turning, table_by_climbing,
)

# How many there are of 1 to 8 steps: as many kinds as tables.
COUNTS = [0, 1, 1, 2, 1, 4, 3, 8]


def first_with(row):
    """The first closing word, in order, that has this table; none if there is none."""
    return min([word for word in closing_words(len(row)) if table_by_climbing(word) == row], default=None)


class Find(unittest.TestCase):

    def test_two_steps(self):
        self.assertEqual(ask_of([1, 0], (FIND, [0, 2])), [[2, 0, 1]])

    def test_three_like_steps(self):
        self.assertEqual(ask_of([1, 1, 1], (FIND, [0, 0, 3])), [[3, 0, 0, 0]])

    def test_four_steps(self):
        told = ask_of([1, 0, 1, 0], (FIND, [0, 2, 0, 4]), (FIND, [0, 4, 0, 4]))
        self.assertEqual(told, [[4, 0, 0, 1, 1], [4, 0, 1, 0, 1]])

    def test_eight_steps(self):
        told = ask_of([1] * 7 + [0], (FIND, [0, 2, 5, 0, 5, 2, 0, 8]), (FIND, [0, 8] * 4),
                      (FIND, [0, 6, 0, 6, 0, 6, 0, 8]))
        self.assertEqual(told, [[8, 0, 0, 0, 0, 0, 0, 0, 1], [8, 0, 1, 0, 1, 0, 1, 0, 1], [8, 0, 0, 1, 0, 1, 0, 1, 1]])

    def test_a_table_of_another_number_of_steps(self):
        told = ask_of([0, 0, 1, 1], (FIND, [0, 2]), (FIND, [0, 0, 3]), (FIND, [0, 2, 2, 0, 5]), (STATE,))
        self.assertEqual(told, [[2, 0, 1], [3, 0, 0, 0], [5, 0, 0, 0, 0, 1], [4, 0, 0, 1, 1]])
        told = ask_of([0, 0, 1, 1], (FIND, [0]), (FIND, [0, 2, 0]), (FIND, [0, 2, 0, 4, 0]), (FIND, [0, 0]))
        self.assertEqual(told, [[-33]] * 4)

    def test_a_table_that_is_none(self):
        for row in ([0], [1], [0, 0], [2, 0], [2, 2], [0, 3], [0, 0, 0], [0, 3, 3], [1, 0, 3], [0, 3, 0, 4],
                    [0, 0, 0, 4], [4, 0, 2, 0], [0, 2, 2, 0, 4], [0, 2, 5, 0, 5, 2, 0, 7], [0, 6, 0, 5, 0, 6, 0, 8],
                    [LARGEST], [0, LARGEST], [LARGEST] * 8, [0] * 8):
            with self.subTest(row=row):
                self.assertEqual(ask_of([0, 0, 1, 1], (FIND, row), (STATE,)), [[-33], [4, 0, 0, 1, 1]])

    def test_too_few_or_too_many_numbers(self):
        for row in ([], [0] * 9, [0, 0, 3] * 3, [0, 2] * 30, [LARGEST] * 60):
            with self.subTest(row=row):
                self.assertEqual(ask_of([0, 0, 1, 1], (FIND, row), (STATE,)), [[-22], [4, 0, 0, 1, 1]])

    def test_the_table_of_every_closing_word(self):
        for word in all_closing_words():
            row = table_by_climbing(word)
            self.assertEqual(ask_of([1, 0], (FIND, row)), [[len(word)] + first_with(row)], word)
            self.assertEqual(ask_of(word, (FIND, row), (STATE,))[1], [len(word)] + word)

    def test_every_row_of_up_to_four_small_numbers(self):
        for numbers in range(1, 5):
            for row in product(range(numbers + 1), repeat=numbers):
                found = first_with(list(row))
                told = [-33] if found is None else [numbers] + found
                self.assertEqual(ask_of([0, 1], (FIND, list(row))), [told], row)

    def test_one_number_off(self):
        for word in all_closing_words():
            row = table_by_climbing(word)
            for at in range(len(row)):
                off = row[:at] + [row[at] + 1] + row[at + 1:]
                self.assertEqual(ask_of(word, (FIND, off)), [[-33]], (word, at))

    def test_behind_a_change(self):
        told = ask_of([0, 0, 1, 1], (FIND, [0, 2, 0, 4]), (EXCHANGE, 1, 2), (FIND, [0, 2, 0, 4]), (LATER, 1),
                      (TABLE,), (FIND, [0, 4, 0, 4]))
        self.assertEqual(told, [[4, 0, 0, 1, 1], [4, 0, 1, 0, 1], [4, 0, 0, 1, 1], [4, 1, 0, 1, 0], [4, 0, 4, 0, 4],
                                [4, 0, 1, 0, 1]])


class Counted(unittest.TestCase):
    """Kinds and tables."""

    def test_each_number_of_steps(self):
        for call in (KINDS, TABLES):
            told = ask_of([0, 0, 1, 1], *[(call, steps) for steps in range(1, 9)], (STATE,))
            self.assertEqual(told, [[count] for count in COUNTS] + [[4, 0, 0, 1, 1]])

    def test_kinds_beside_those_gathered_by_turning(self):
        for steps in range(1, 9):
            left = closing_words(steps)
            kinds = 0
            while left:
                names = names_by_turning(left[0])
                left = [word for word in left if word not in names]
                kinds += 1
            self.assertEqual(ask_of([0, 1], (KINDS, steps)), [[kinds]], steps)

    def test_tables_beside_those_found_by_climbing(self):
        for steps in range(1, 9):
            rows = []
            for word in closing_words(steps):
                row = table_by_climbing(word)
                if row not in rows:
                    rows.append(row)
            self.assertEqual(ask_of([0, 1], (TABLES, steps)), [[len(rows)]], steps)

    def test_not_one_to_eight(self):
        for steps in (0, 9, 10, 60, LARGEST):
            told = ask_of([0, 0, 1, 1], (KINDS, steps), (TABLES, steps), (STATE,))
            self.assertEqual(told, [[-22], [-22], [4, 0, 0, 1, 1]], steps)

    def test_whatever_the_word_is(self):
        for word in all_closing_words():
            self.assertEqual(ask_of(word, (KINDS, 6), (TABLES, 7)), [[4], [3]], word)


if __name__ == "__main__":
    unittest.main()
