"""What holds, of all closing words of 1 to 8 steps."""

import unittest

from asking import (
    ALIKE, DIFFER, FIND, FIRST, KINDS, LARGEST, LYING, NEAR, PAIRS, SAME, TABLE, TABLES, TOTAL, all_closing_words,
    ask_of, closing_words,
)


class ToldApart(unittest.TestCase):
    """What the document says under a and d."""

    def test_one_table_just_if_alike(self):
        for steps in range(1, 9):
            others = closing_words(steps)
            for word in others:
                same = ask_of(word, *[(SAME, other) for other in others])
                self.assertEqual(ask_of(word, *[(ALIKE, other) for other in others]), same, word)
                differ = ask_of(word, *[(DIFFER, other) for other in others])
                self.assertEqual([[1 if told == [-6] else 0] for told in differ], same, word)

    def test_one_table_just_if_one_first_name(self):
        for steps in range(1, 9):
            told = [ask_of(word, (TABLE,), (FIRST,)) for word in closing_words(steps)]
            for row, name in told:
                for other_row, other_name in told:
                    self.assertEqual(row == other_row, name == other_name)

    def test_found_by_its_table_a_word_is_alike(self):
        for word in all_closing_words():
            row = ask_of(word, (TABLE,))[0][1:]
            found = ask_of(word, (FIND, row))[0]
            self.assertEqual(found[0], len(word), word)
            self.assertEqual(ask_of(word, (ALIKE, found[1:]), (FIRST,)), [[1], found], word)

    def test_as_many_tables_as_kinds(self):
        for steps in range(1, 9):
            told = ask_of([0, 1], (TABLES, steps), (KINDS, steps))
            self.assertEqual(told[0], told[1], steps)


class PairsAndLayers(unittest.TestCase):
    """What the document says under b and c."""

    def test_pairs_are_all_layers(self):
        for word in all_closing_words():
            for apart in list(range(20)) + [LARGEST]:
                told = ask_of(word, (PAIRS, apart))
                self.assertEqual(sum(told[0]), len(word), (word, apart))

    def test_one_on_are_as_many_as_the_rest_apart_one_back(self):
        for word in all_closing_words():
            for apart in range(len(word) + 1):
                told = ask_of(word, (PAIRS, apart), (PAIRS, len(word) - apart))
                self.assertEqual(told[0][1], told[1][2], (word, apart))

    def test_next_layers_never_lie_alike(self):
        for word in all_closing_words():
            told = ask_of(word, (PAIRS, 1), (TABLE,), (NEAR,))
            self.assertEqual(told[0][0], 0, word)
            self.assertEqual(told[1][1], 0, word)
            self.assertGreater(told[2][0], 1, word)

    def test_all_a_round_apart_lie_alike(self):
        for word in all_closing_words():
            told = ask_of(word, (PAIRS, len(word)), (TABLE,))
            self.assertEqual(told[0], [len(word), 0, 0], word)
            self.assertEqual(told[1][-1], len(word), word)

    def test_the_total_is_that_of_the_squares_of_those_lying(self):
        for word in all_closing_words():
            told = ask_of(word, (TOTAL,), (LYING,), (TABLE,))
            self.assertEqual(told[0], [sum(number * number for number in told[1][1:])], word)
            self.assertEqual(told[0], [sum(told[2][1:])], word)


if __name__ == "__main__":
    unittest.main()
