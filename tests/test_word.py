"""Point 1: start, exchange, later, first, state."""

import unittest

from asking import (
    EXCHANGE, FIRST, LARGEST, LATER, START, STATE, all_closing_words, ask, ask_of, is_closing, names_by_turning, words,
)
from raylayers.rays import held, names_of


class Start(unittest.TestCase):

    def test_words_that_close(self):
        for word in ([0, 1], [1, 0], [0, 0, 0], [1, 1, 1], [0, 0, 1, 1], [1, 0, 0, 0, 0], [0, 1, 0, 1, 0, 1],
                     [1, 1, 0, 0, 0, 0, 0], [0, 0, 0, 0, 0, 0, 0, 1], [1, 1, 1, 1, 0, 0, 0, 0]):
            with self.subTest(word=word):
                self.assertEqual(ask((START, word), (LATER, 0)), [[len(word)], [len(word)] + word])

    def test_words_that_do_not_close(self):
        for word in ([0], [1], [0, 0], [1, 1], [0, 0, 1], [1, 0, 1], [0, 0, 0, 0], [1] * 8, [0, 1] * 3 + [1]):
            with self.subTest(word=word):
                self.assertEqual(ask((START, word)), [[-33]])

    def test_every_word_of_one_to_eight_steps(self):
        for steps in range(1, 9):
            for word in words(steps):
                self.assertEqual(ask((START, word)), [[steps if is_closing(word) else -33]], word)

    def test_how_many_close(self):
        self.assertEqual(len(all_closing_words()), 0 + 2 + 2 + 6 + 10 + 22 + 42 + 86)

    def test_too_few_or_too_many_steps(self):
        for word in ([], [0] * 9, [1] * 9, [0, 1] * 5, [0, 1] * 30, [1] * 60):
            with self.subTest(word=word):
                self.assertEqual(ask((START, word)), [[-22]])

    def test_steps_that_are_none(self):
        for word in ([2], [LARGEST], [0, 2], [2, 1], [0, 0, 3], [4, 4, 4], [0, 1, 0, 1, 0, 1, 0, 2], [LARGEST, 1]):
            with self.subTest(word=word):
                self.assertEqual(ask((START, word)), [[-22]])


class Exchange(unittest.TestCase):

    def test_ordinary(self):
        told = ask_of([0, 0, 1, 1], (EXCHANGE, 0, 2), (EXCHANGE, 3, 1), (LATER, 0))
        self.assertEqual(told, [[4, 1, 0, 0, 1], [4, 1, 1, 0, 0], [4, 1, 1, 0, 0]])

    def test_like_steps(self):
        self.assertEqual(ask_of([0, 0, 1, 1], (EXCHANGE, 0, 1)), [[4, 0, 0, 1, 1]])

    def test_a_step_with_itself(self):
        for word in ([0, 1], [1, 1, 1], [0, 0, 0, 0, 0, 0, 0, 1]):
            for step in range(len(word)):
                self.assertEqual(ask_of(word, (EXCHANGE, step, step)), [[len(word)] + word])

    def test_every_two_steps(self):
        for word in all_closing_words():
            steps = range(len(word))
            for i in steps:
                for j in steps:
                    turned = list(word)
                    turned[i], turned[j] = word[j], word[i]
                    row = [len(word)] + turned
                    self.assertEqual(ask_of(word, (EXCHANGE, i, j), (LATER, 0)), [row, row])

    def test_no_such_step(self):
        for i, j in ((4, 0), (0, 4), (4, 4), (3, 4), (LARGEST, 1), (1, LARGEST), (LARGEST, LARGEST), (0, 8)):
            with self.subTest(i=i, j=j):
                told = ask_of([0, 0, 1, 1], (EXCHANGE, i, j), (LATER, 0))
                self.assertEqual(told, [[-2], [4, 0, 0, 1, 1]])

    def test_the_last_step_of_eight(self):
        word = [0, 0, 0, 0, 0, 0, 0, 1]
        self.assertEqual(ask_of(word, (EXCHANGE, 7, 0), (EXCHANGE, 7, 8)), [[8, 1, 0, 0, 0, 0, 0, 0, 0], [-2]])


class Later(unittest.TestCase):

    def test_ordinary(self):
        told = ask_of([0, 0, 1, 0, 0], (LATER, 1), (LATER, 3), (LATER, 4))
        self.assertEqual(told, [[5, 0, 1, 0, 0, 0], [5, 0, 0, 0, 1, 0], [5, 0, 0, 0, 0, 1]])

    def test_two_steps(self):
        self.assertEqual(ask_of([0, 1], (LATER, 1), (LATER, 0), (LATER, 2)), [[2, 1, 0], [2, 1, 0], [-22]])

    def test_three_like_steps(self):
        self.assertEqual(ask_of([1, 1, 1], (LATER, 2), (LATER, 3)), [[3, 1, 1, 1], [-22]])

    def test_every_step(self):
        for word in all_closing_words():
            for k in range(len(word)):
                turned = [word[(step + k) % len(word)] for step in range(len(word))]
                row = [len(word)] + turned
                self.assertEqual(ask_of(word, (LATER, k), (LATER, 0)), [row, row])

    def test_not_below_how_many_steps_there_are(self):
        for word in ([0, 0, 1, 1], [1, 0, 0, 0, 0, 0, 0, 0]):
            for k in (len(word), len(word) + 1, 2 * len(word), LARGEST):
                with self.subTest(word=word, k=k):
                    self.assertEqual(ask_of(word, (LATER, k), (LATER, 0)), [[-22], [len(word)] + word])


class First(unittest.TestCase):

    def test_two_steps(self):
        self.assertEqual(ask_of([0, 1], (FIRST,)), [[2, 0, 1]])
        self.assertEqual(ask_of([1, 0], (FIRST,)), [[2, 0, 1]])

    def test_three_like_steps(self):
        self.assertEqual(ask_of([0, 0, 0], (FIRST,)), [[3, 0, 0, 0]])
        self.assertEqual(ask_of([1, 1, 1], (FIRST,)), [[3, 0, 0, 0]])

    def test_later(self):
        self.assertEqual(ask_of([0, 0, 1, 0, 0], (FIRST,)), [[5, 0, 0, 0, 0, 1]])

    def test_opposite(self):
        self.assertEqual(ask_of([1, 1, 1, 1, 0], (FIRST,)), [[5, 0, 0, 0, 0, 1]])

    def test_backwards(self):
        self.assertEqual(ask_of([1, 1, 0, 1, 0, 0], (FIRST,)), [[6, 0, 0, 1, 0, 1, 1]])

    def test_eight_steps(self):
        self.assertEqual(ask_of([1, 1, 0, 1, 1, 0, 0, 0], (FIRST,)), [[8, 0, 0, 0, 1, 1, 0, 1, 1]])
        self.assertEqual(ask_of([1, 0] * 4, (FIRST,)), [[8, 0, 1, 0, 1, 0, 1, 0, 1]])
        self.assertEqual(ask_of([1, 1, 1, 1, 1, 0, 1, 1], (FIRST,)), [[8, 0, 0, 0, 0, 0, 0, 0, 1]])

    def test_every_closing_word(self):
        for word in all_closing_words():
            self.assertEqual(ask_of(word, (FIRST,)), [[len(word)] + names_by_turning(word)[0]], word)

    def test_all_names_have_one_first_name(self):
        for word in all_closing_words():
            told = {tuple(ask_of(name, (FIRST,))[0]) for name in names_by_turning(word)}
            self.assertEqual(len(told), 1, word)

    def test_the_word_that_is_there_now(self):
        told = ask_of([1, 1, 0, 0], (FIRST,), (EXCHANGE, 0, 2), (FIRST,), (STATE,), (START, [1, 1, 1]), (FIRST,))
        self.assertEqual(told, [[4, 0, 0, 1, 1], [4, 0, 1, 1, 0], [4, 0, 0, 1, 1], [4, 0, 1, 1, 0],
                                [3], [3, 0, 0, 0]])


class Ways(unittest.TestCase):
    """The ways themselves: up to eight steps the calls can't show that backwards is among them.

    What is made of a closing word backwards, some later beginning or its opposite is too.
    """

    def test_way_by_way(self):
        made = [held([0, 0, 0, 0, 1], way) for way in range(20)]
        self.assertEqual(made, [
            [0, 0, 0, 0, 1], [0, 0, 0, 1, 0], [0, 0, 1, 0, 0], [0, 1, 0, 0, 0], [1, 0, 0, 0, 0],
            [1, 1, 1, 1, 0], [1, 1, 1, 0, 1], [1, 1, 0, 1, 1], [1, 0, 1, 1, 1], [0, 1, 1, 1, 1],
            [1, 0, 0, 0, 0], [0, 1, 0, 0, 0], [0, 0, 1, 0, 0], [0, 0, 0, 1, 0], [0, 0, 0, 0, 1],
            [0, 1, 1, 1, 1], [1, 0, 1, 1, 1], [1, 1, 0, 1, 1], [1, 1, 1, 0, 1], [1, 1, 1, 1, 0],
        ])

    def test_all_names(self):
        for word in all_closing_words():
            made = [held(word, way) for way in range(4 * len(word))]
            self.assertEqual(names_of(word), made, word)
            self.assertEqual(sorted(set(map(tuple, made))), list(map(tuple, names_by_turning(word))), word)


class State(unittest.TestCase):

    def test_every_closing_word(self):
        for word in all_closing_words():
            self.assertEqual(ask_of(word, (STATE,), (STATE,)), [[len(word)] + word] * 2, word)

    def test_behind_changes(self):
        told = ask_of([0, 0, 1, 1], (EXCHANGE, 0, 3), (STATE,), (LATER, 1), (STATE,), (START, [1, 0]), (STATE,))
        self.assertEqual(told[1::2], [[4, 1, 0, 1, 0], [4, 0, 1, 0, 1], [2, 1, 0]])

    def test_behind_refusals(self):
        told = ask_of([0, 0, 1, 1], (EXCHANGE, 0, 4), (LATER, 4), (START, [0, 0]), (START, []), (STATE,))
        self.assertEqual(told, [[-2], [-22], [-33], [-22], [4, 0, 0, 1, 1]])


if __name__ == "__main__":
    unittest.main()
