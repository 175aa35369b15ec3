"""Point 2: with_pairs."""

import unittest

from asking import (
    EXCHANGE, LARGEST, LATER, START, WITH_PAIRS, all_closing_words, ask_of, closing_words, pairs_by_climbing,
)


def told_of(word, apart, counts):
    return [told[0] for told in ask_of(word, *[(WITH_PAIRS, apart, count) for count in counts])]


class WithPairs(unittest.TestCase):

    def test_two_steps(self):
        self.assertEqual(told_of([0, 1], 1, range(4)), [2, 0, 0, 0])
        self.assertEqual(told_of([1, 0], 2, range(4)), [0, 0, 2, 0])

    def test_three_like_steps(self):
        self.assertEqual(told_of([1, 1, 1], 1, range(5)), [2, 0, 0, 0, 0])
        self.assertEqual(told_of([1, 1, 1], 2, range(5)), [2, 0, 0, 0, 0])
        self.assertEqual(told_of([0, 0, 0], 3, range(5)), [0, 0, 0, 2, 0])

    def test_four_steps(self):
        # 0011 and its three others have two such pairs, 0101 and 1010 four.
        self.assertEqual(told_of([0, 0, 1, 1], 2, range(6)), [0, 0, 4, 0, 2, 0])
        self.assertEqual(told_of([0, 1, 0, 1], 2, range(6)), [0, 0, 4, 0, 2, 0])

    def test_eight_steps(self):
        # 00001111 has 8 names, 00000001 has 16; 00110011 has 4, 00011011 and 00010111 have 16;
        # 00101101 has 8, 00101011 has 16; 01010101 has 2.
        self.assertEqual(told_of([0] * 7 + [1], 2, range(10)), [0, 0, 24, 0, 36, 0, 24, 0, 2, 0])

    def test_none_and_a_round_apart(self):
        for word in ([0, 1], [1, 1, 1], [0, 0, 1, 1], [0] * 7 + [1]):
            closing = len(closing_words(len(word)))
            for apart in (0, len(word), 2 * len(word), 5 * len(word)):
                told = told_of(word, apart, range(len(word) + 2))
                self.assertEqual(told, [0] * len(word) + [closing, 0], (word, apart))

    def test_very_far_apart(self):
        self.assertEqual(told_of([0, 1], LARGEST, (0, 1, 2, LARGEST)), [2, 0, 0, 0])
        self.assertEqual(told_of([1, 1, 1], LARGEST, (0, 2, 3, LARGEST)), [0, 0, 2, 0])
        self.assertEqual(told_of([0, 0, 1, 1], LARGEST - 1, (0, 2, 4, LARGEST)), [0, 4, 2, 0])
        self.assertEqual(told_of([1, 0, 0, 0, 0], LARGEST, (0, 2, 5, LARGEST)), [0, 0, 10, 0])
        self.assertEqual(told_of([0] * 7 + [1], LARGEST - 1, (2, 4, 6, 8, LARGEST)), [24, 36, 24, 2, 0])

    def test_no_such_count(self):
        for apart in (0, 1, 2, 8, LARGEST):
            self.assertEqual(told_of([0] * 7 + [1], apart, (9, 10, 86, LARGEST)), [0, 0, 0, 0])

    def test_every_apart_and_every_count(self):
        # No word of one step closes, so there is none to ask of.
        self.assertEqual(closing_words(1), [])
        for steps in range(2, 9):
            closing = closing_words(steps)
            for apart in list(range(2 * steps + 2)) + [LARGEST]:
                near = apart % steps if apart == LARGEST else apart
                alike = [pairs_by_climbing(word, near)[0] for word in closing]
                counts = list(range(steps + 2)) + [LARGEST]
                told = told_of(closing[-1], apart, counts)
                self.assertEqual(told, [alike.count(count) for count in counts], (steps, apart))
                self.assertEqual(sum(told), len(closing), (steps, apart))

    def test_words_of_as_many_steps_tell_one_number(self):
        for word in all_closing_words():
            other = closing_words(len(word))[0]
            for apart in range(len(word)):
                counts = range(len(word) + 1)
                self.assertEqual(told_of(word, apart, counts), told_of(other, apart, counts), (word, apart))

    def test_the_word_that_is_there_now(self):
        told = ask_of([0, 0, 1, 1], (WITH_PAIRS, 2, 4), (EXCHANGE, 1, 2), (WITH_PAIRS, 2, 4), (LATER, 1),
                      (WITH_PAIRS, 2, 4), (START, [0, 1]), (WITH_PAIRS, 2, 4), (WITH_PAIRS, 2, 2))
        self.assertEqual(told[::2], [[2], [2], [2], [0]])
        self.assertEqual(told[-1], [2])


if __name__ == "__main__":
    unittest.main()
