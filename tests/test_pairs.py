"""Point 2: pairs, table, lying, total, near."""

import unittest

from asking import (
    EXCHANGE, LARGEST, LATER, LYING, NEAR, PAIRS, START, TABLE, TOTAL, all_closing_words, ask_of, pairs_by_climbing,
    place, table_by_climbing,
)

ALL_FIVE = ((PAIRS, 2), (TABLE,), (LYING,), (TOTAL,), (NEAR,))


class ByHand(unittest.TestCase):
    """Words whose layers are written out: those of one round, then they come again."""

    def test_two_steps(self):
        # 0 2
        self.assertEqual(ask_of([0, 1], *ALL_FIVE), [[2, 0, 0], [2, 0, 2], [3, 1, 0, 1], [2], [2]])
        # 0 1
        self.assertEqual(ask_of([1, 0], *ALL_FIVE), [[2, 0, 0], [2, 0, 2], [3, 1, 1, 0], [2], [2]])

    def test_three_like_steps(self):
        # 0 1 2
        self.assertEqual(ask_of([1, 1, 1], *ALL_FIVE), [[0, 0, 3], [3, 0, 0, 3], [3, 1, 1, 1], [3], [3]])
        # 0 2 1
        self.assertEqual(ask_of([0, 0, 0], *ALL_FIVE), [[0, 3, 0], [3, 0, 0, 3], [3, 1, 1, 1], [3], [3]])

    def test_four_steps(self):
        # 0 2 1 2
        self.assertEqual(ask_of([0, 0, 1, 1], *ALL_FIVE), [[2, 1, 1], [4, 0, 2, 0, 4], [3, 1, 1, 2], [6], [2]])

    def test_five_steps(self):
        # 0 1 0 2 1
        told = ask_of([1, 0, 0, 0, 0], *ALL_FIVE)
        self.assertEqual(told, [[2, 3, 0], [5, 0, 2, 2, 0, 5], [3, 2, 2, 1], [9], [2]])

    def test_six_like_steps(self):
        # 0 1 2 0 1 2
        told = ask_of([1] * 6, *ALL_FIVE)
        self.assertEqual(told, [[0, 0, 6], [6, 0, 0, 6, 0, 0, 6], [3, 2, 2, 2], [12], [3]])

    def test_eight_steps(self):
        # 0 1 0 1 0 1 0 1
        told = ask_of([1, 0] * 4, *ALL_FIVE)
        self.assertEqual(told, [[8, 0, 0], [8, 0, 8, 0, 8, 0, 8, 0, 8], [3, 4, 4, 0], [32], [2]])
        # 0 2 1 0 2 1 0 2
        told = ask_of([0] * 7 + [1], *ALL_FIVE)
        self.assertEqual(told, [[2, 6, 0], [8, 0, 2, 5, 0, 5, 2, 0, 8], [3, 3, 2, 3], [22], [2]])

    def test_pairs_of_none_and_of_a_round_and_more(self):
        # 0 1 0 2 1
        told = ask_of([1, 0, 0, 0, 0], (PAIRS, 0), (PAIRS, 1), (PAIRS, 5), (PAIRS, 6), (PAIRS, 7), (PAIRS, 10))
        self.assertEqual(told, [[5, 0, 0], [0, 1, 4], [5, 0, 0], [0, 1, 4], [2, 3, 0], [5, 0, 0]])

    def test_pairs_very_far_apart(self):
        # 4294967295 divided by 3 or 5 leaves nothing; by 2, 4 or 8 it leaves one fewer than that.
        self.assertEqual(ask_of([1, 0], (PAIRS, LARGEST)), [[0, 1, 1]])
        self.assertEqual(ask_of([1, 1, 1], (PAIRS, LARGEST), (PAIRS, LARGEST - 1)), [[3, 0, 0], [0, 0, 3]])
        self.assertEqual(ask_of([0, 0, 1, 1], (PAIRS, LARGEST)), [[0, 2, 2]])
        self.assertEqual(ask_of([1, 0, 0, 0, 0], (PAIRS, LARGEST), (PAIRS, LARGEST - 3)), [[5, 0, 0], [2, 3, 0]])
        self.assertEqual(ask_of([0] * 7 + [1], (PAIRS, LARGEST)), [[0, 7, 1]])


class BehindAChange(unittest.TestCase):
    """The word that is there now is told of, and telling leaves it."""

    def test_behind_an_exchange(self):
        # 0 2 0 2
        told = ask_of([0, 0, 1, 1], (EXCHANGE, 1, 2), *ALL_FIVE)
        self.assertEqual(told[1:], [[4, 0, 0], [4, 0, 4, 0, 4], [3, 2, 0, 2], [8], [2]])

    def test_behind_a_later_beginning(self):
        # 0 1 2 1
        told = ask_of([0, 0, 1, 1], (LATER, 2), *ALL_FIVE)
        self.assertEqual(told[1:], [[2, 1, 1], [4, 0, 2, 0, 4], [3, 1, 2, 1], [6], [2]])

    def test_behind_another_start(self):
        told = ask_of([0, 0, 1, 1], (START, [1, 1, 1]), *ALL_FIVE)
        self.assertEqual(told[1:], [[0, 0, 3], [3, 0, 0, 3], [3, 1, 1, 1], [3], [3]])

    def test_telling_leaves_the_word(self):
        for word in ([0, 1], [1, 1, 1], [0, 0, 1, 0, 0]):
            told = ask_of(word, *ALL_FIVE, (LATER, 0), *ALL_FIVE)
            self.assertEqual(told[5], [len(word)] + word)
            self.assertEqual(told[:5], told[6:])


class EveryClosingWord(unittest.TestCase):
    """All closing words of 1 to 8 steps, beside what climbing from layer to layer finds."""

    def test_pairs(self):
        for word in all_closing_words():
            aparts = list(range(3 * len(word) + 1))
            told = ask_of(word, *[(PAIRS, apart) for apart in aparts])
            self.assertEqual(told, [pairs_by_climbing(word, apart) for apart in aparts], word)

    def test_pairs_very_far_apart(self):
        for word in all_closing_words():
            for apart in range(LARGEST - 8, LARGEST + 1):
                told = ask_of(word, (PAIRS, apart))
                self.assertEqual(told, [pairs_by_climbing(word, apart % len(word))], (word, apart))

    def test_table_and_total_and_near(self):
        for word in all_closing_words():
            row = table_by_climbing(word)
            nearest = [number > 0 for number in row].index(True) + 1
            told = ask_of(word, (TABLE,), (TOTAL,), (NEAR,))
            self.assertEqual(told, [[len(word)] + row, [sum(row)], [nearest]], word)

    def test_lying(self):
        for word in all_closing_words():
            places = [place(word, layer) for layer in range(len(word))]
            told = ask_of(word, (LYING,))
            self.assertEqual(told, [[3, places.count(0), places.count(1), places.count(2)]], word)


if __name__ == "__main__":
    unittest.main()
