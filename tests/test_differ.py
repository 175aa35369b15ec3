"""Point 3: differ."""

import unittest

from asking import (
    DIFFER, EXCHANGE, LARGEST, START, STATE, ask_of, closing_words, is_closing, names_by_turning, table_by_climbing,
    words,
)


def fewest_apart(row, other):
    """The fewest apart at which two tables differ, or -6."""
    return min([apart for apart in range(1, len(row) + 1) if row[apart - 1] != other[apart - 1]], default=-6)


class Differ(unittest.TestCase):

    def test_at_two_apart(self):
        # 0 2 1 2, then 0 2 0 2.
        self.assertEqual(ask_of([0, 0, 1, 1], (DIFFER, [0, 1, 0, 1])), [[2]])
        # 0 1 2 0 1 2, then 0 1 2 0 2 1.
        self.assertEqual(ask_of([1] * 6, (DIFFER, [1, 1, 1, 0, 0, 0])), [[2]])

    def test_at_three_apart(self):
        # The tables 0 2 4 2 4 2 0 8 and 0 2 5 0 5 2 0 8.
        self.assertEqual(ask_of([0] * 4 + [1] * 4, (DIFFER, [0] * 7 + [1])), [[3]])
        self.assertEqual(ask_of([0] * 7 + [1], (DIFFER, [0] * 4 + [1] * 4)), [[3]])

    def test_at_four_apart(self):
        # The tables 0 6 0 4 0 6 0 8 and 0 6 0 6 0 6 0 8.
        self.assertEqual(ask_of([0, 0, 1, 0, 1, 1, 0, 1], (DIFFER, [0, 0, 1, 0, 1, 0, 1, 1])), [[4]])

    def test_the_same_table(self):
        for word in ([0, 1], [1, 1, 1], [0, 0, 1, 1], [0, 0, 1, 0, 1, 1], [0, 0, 0, 1, 0, 1, 1, 1]):
            for other in names_by_turning(word):
                self.assertEqual(ask_of(word, (DIFFER, other)), [[-6]], (word, other))

    def test_every_two_closing_words_of_as_many_steps(self):
        for steps in range(1, 9):
            others = closing_words(steps)
            rows = [table_by_climbing(other) for other in others]
            for word, row in zip(others, rows):
                told = ask_of(word, *[(DIFFER, other) for other in others])
                self.assertEqual(told, [[fewest_apart(row, other)] for other in rows], word)

    def test_a_word_of_another_number_of_steps(self):
        for other in ([], [0], [0, 1], [1, 1, 1], [1, 0, 0, 0, 0], [0, 0, 1, 1] * 2, [0] * 9, [0, 0, 1, 1] * 15,
                      [0, 0, 1, 1, 0]):
            with self.subTest(other=other):
                self.assertEqual(ask_of([0, 0, 1, 1], (DIFFER, other), (STATE,)), [[-22], [4, 0, 0, 1, 1]])

    def test_steps_that_are_none(self):
        for other in ([0, 0, 1, 2], [3, 0, 1, 1], [0, LARGEST, 1, 1], [2, 2, 2, 2], [0, 0, 0, 4]):
            with self.subTest(other=other):
                self.assertEqual(ask_of([0, 0, 1, 1], (DIFFER, other), (STATE,)), [[-22], [4, 0, 0, 1, 1]])

    def test_a_word_that_does_not_close(self):
        for word in ([0, 1], [0, 0, 0], [0, 0, 1, 1], [0] * 7 + [1]):
            for other in words(len(word)):
                if not is_closing(other):
                    self.assertEqual(ask_of(word, (DIFFER, other)), [[-33]], (word, other))

    def test_the_word_that_is_there_now(self):
        told = ask_of([0, 0, 1, 1], (EXCHANGE, 1, 2), (DIFFER, [0, 0, 1, 1]), (DIFFER, [1, 0, 1, 0]), (START, [0, 1]),
                      (DIFFER, [1, 0, 1, 0]), (DIFFER, [1, 0]), (STATE,))
        self.assertEqual(told, [[4, 0, 1, 0, 1], [2], [-6], [2], [-22], [-6], [2, 0, 1]])


if __name__ == "__main__":
    unittest.main()
