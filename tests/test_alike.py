"""Point 3: alike."""

import unittest

from asking import (
    ALIKE, EXCHANGE, LARGEST, START, STATE, all_closing_words, ask_of, closing_words, is_closing, names_by_turning,
    words,
)


def told_of(word, others):
    return [told[0] for told in ask_of(word, *[(ALIKE, other) for other in others])]


class Alike(unittest.TestCase):

    def test_two_steps(self):
        self.assertEqual(told_of([0, 1], words(2)), [0, 1, 1, 0])

    def test_three_like_steps(self):
        self.assertEqual(told_of([1, 1, 1], words(3)), [1, 0, 0, 0, 0, 0, 0, 1])

    def test_later(self):
        self.assertEqual(told_of([0, 0, 1, 1], ([0, 0, 1, 1], [0, 1, 1, 0], [1, 1, 0, 0], [1, 0, 0, 1])), [1] * 4)

    def test_opposite(self):
        self.assertEqual(told_of([0] * 6, ([1] * 6,)), [1])
        self.assertEqual(told_of([0] * 7 + [1], ([1] * 7 + [0], [1] * 4 + [0] + [1] * 3)), [1, 1])

    def test_backwards_alone(self):
        # However much later it is begun, it never is what it is backwards.
        for word in ([0, 0, 1, 0, 1, 1], [0, 0, 0, 1, 0, 1, 1, 1], [0, 0, 1, 0, 1, 0, 1, 1]):
            begun = [word[later:] + word[:later] for later in range(len(word))]
            self.assertNotIn(word[::-1], begun)
            self.assertEqual(told_of(word, [name[::-1] for name in begun]), [1] * len(word))

    def test_not_alike(self):
        self.assertEqual(told_of([0, 0, 1, 1], ([0, 1, 0, 1], [1, 0, 1, 0])), [0, 0])
        self.assertEqual(told_of([0, 0, 1, 0, 1, 1], ([0, 0, 0, 1, 1, 1], [0, 1] * 3, [0] * 6)), [0, 0, 0])

    def test_every_two_closing_words_of_as_many_steps(self):
        for steps in range(1, 9):
            others = closing_words(steps)
            for word in others:
                names = names_by_turning(word)
                self.assertEqual(told_of(word, others), [1 if other in names else 0 for other in others], word)

    def test_a_word_that_does_not_close(self):
        for word in ([0, 1], [0, 0, 0], [0, 0, 1, 1], [0, 0, 1, 0, 0], [0] * 7 + [1]):
            others = [other for other in words(len(word)) if not is_closing(other)]
            self.assertEqual(told_of(word, others), [0] * len(others), word)

    def test_a_word_of_another_number_of_steps(self):
        others = [other for steps in (1, 2, 3, 5, 6) for other in words(steps)] + [[0, 0, 1, 1] * 2]
        self.assertEqual(told_of([0, 0, 1, 1], others), [0] * len(others))
        for word in all_closing_words():
            others = [other for other in ([0], [1], [0, 1], [1, 1, 1], word[1:], word[:-1], (word * 2)[:8])
                      if other and len(other) != len(word)]
            self.assertEqual(told_of(word, others), [0] * len(others), word)

    def test_too_few_or_too_many_steps(self):
        for other in ([], [0] * 9, [1] * 9, [0, 0, 1, 1] * 3, [0, 0, 1, 1] * 15):
            with self.subTest(other=other):
                self.assertEqual(ask_of([0, 0, 1, 1], (ALIKE, other), (STATE,)), [[-22], [4, 0, 0, 1, 1]])

    def test_steps_that_are_none(self):
        for other in ([2], [LARGEST], [0, 2], [0, 0, 1, 2], [3, 0, 1, 1], [0, LARGEST, 1, 1], [0] * 7 + [2]):
            with self.subTest(other=other):
                self.assertEqual(ask_of([0, 0, 1, 1], (ALIKE, other), (STATE,)), [[-22], [4, 0, 0, 1, 1]])

    def test_the_word_that_is_there_now(self):
        told = ask_of([0, 0, 1, 1], (EXCHANGE, 1, 2), (ALIKE, [0, 0, 1, 1]), (ALIKE, [1, 0, 1, 0]), (START, [1, 1, 1]),
                      (ALIKE, [1, 0, 1, 0]), (ALIKE, [0, 0, 0]), (STATE,))
        self.assertEqual(told, [[4, 0, 1, 0, 1], [0], [1], [3], [0], [1], [3, 1, 1, 1]])


if __name__ == "__main__":
    unittest.main()
