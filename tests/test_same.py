"""Point 3: same."""

import unittest

from asking import EXCHANGE, LARGEST, LATER, SAME, START, ask_of, closing_words, is_closing, table_by_climbing, words


class Same(unittest.TestCase):

    def test_a_word_and_itself(self):
        for word in ([0, 1], [1, 1, 1], [0, 0, 1, 1], [0] * 7 + [1]):
            self.assertEqual(ask_of(word, (SAME, word)), [[1]])

    def test_held_otherwise(self):
        # Later, opposite, backwards.
        told = ask_of([0, 0, 1, 1, 0, 1, 0, 1], (SAME, [0, 1, 1, 0, 1, 0, 1, 0]), (SAME, [1, 1, 0, 0, 1, 0, 1, 0]),
                      (SAME, [1, 0, 1, 0, 1, 1, 0, 0]))
        self.assertEqual(told, [[1], [1], [1]])

    def test_other_tables(self):
        # 0 2 1 2, then 0 2 0 2.
        self.assertEqual(ask_of([0, 0, 1, 1], (SAME, [0, 1, 0, 1])), [[0]])
        self.assertEqual(ask_of([0, 1] * 4, (SAME, [0, 0, 1, 1] * 2), (SAME, [0] * 7 + [1])), [[0], [0]])
        self.assertEqual(ask_of([1] * 6, (SAME, [0] * 6), (SAME, [0, 1] * 3), (SAME, [0, 0, 0, 1, 1, 1])),
                         [[1], [0], [0]])

    def test_tables_of_one_total(self):
        # 0 1 2 0 1 2 and 0 1 2 0 2 1: two lie at each position, and yet the tables differ.
        self.assertEqual(ask_of([1] * 6, (SAME, [1, 1, 1, 0, 0, 0])), [[0]])

    def test_every_two_closing_words_of_as_many_steps(self):
        for steps in range(1, 9):
            others = closing_words(steps)
            rows = [table_by_climbing(other) for other in others]
            for word, row in zip(others, rows):
                told = ask_of(word, *[(SAME, other) for other in others])
                self.assertEqual(told, [[1 if row == other else 0] for other in rows], word)

    def test_a_word_of_another_number_of_steps(self):
        for other in ([], [0], [0, 1], [1, 1, 1], [1, 0, 0, 0, 0], [0, 0, 1, 1] * 2, [0] * 9, [0, 0, 1, 1] * 15):
            with self.subTest(other=other):
                self.assertEqual(ask_of([0, 0, 1, 1], (SAME, other), (LATER, 0)), [[-22], [4, 0, 0, 1, 1]])

    def test_steps_that_are_none(self):
        for other in ([0, 0, 1, 2], [3, 0, 1, 1], [0, LARGEST, 1, 1], [2, 2, 2, 2]):
            with self.subTest(other=other):
                self.assertEqual(ask_of([0, 0, 1, 1], (SAME, other)), [[-22]])

    def test_a_word_that_does_not_close(self):
        for word in ([0, 1], [0, 0, 0], [0, 0, 1, 1], [0] * 7 + [1]):
            for other in words(len(word)):
                if not is_closing(other):
                    self.assertEqual(ask_of(word, (SAME, other)), [[-33]], (word, other))

    def test_the_word_that_is_there_now(self):
        told = ask_of([0, 0, 1, 1], (EXCHANGE, 1, 2), (SAME, [0, 0, 1, 1]), (SAME, [1, 0, 1, 0]), (START, [0, 1]),
                      (SAME, [1, 0, 1, 0]), (SAME, [1, 0]))
        self.assertEqual(told, [[4, 0, 1, 0, 1], [0], [1], [2], [-22], [1]])

    def test_the_word_stays(self):
        told = ask_of([0, 0, 1, 1], (SAME, [0, 1, 0, 1]), (SAME, [1, 1, 0, 0]), (SAME, [0, 0, 0, 0]), (LATER, 0))
        self.assertEqual(told, [[0], [1], [-33], [4, 0, 0, 1, 1]])


if __name__ == "__main__":
    unittest.main()
