"""The interface, and what the document says ahead of its points."""

import unittest

from asking import (
    ALIKE, DIFFER, EXCHANGE, FIND, FIRST, KINDS, LARGEST, LATER, LYING, NEAR, PAIRS, SAME, START, STATE,
    TABLE, TABLES, TOTAL, WITH_PAIRS, ask, ask_of, written,
)
from raylayers.rays import answers

OTHER_CALLS = (
    (EXCHANGE, 0, 1), (LATER, 0), (PAIRS, 1), (TABLE,), (LYING,), (TOTAL,), (NEAR,), (SAME, [0, 1]),
    (DIFFER, [0, 1]), (FIND, [0, 2]), (KINDS, 2), (TABLES, 2), (ALIKE, [0, 1]), (FIRST,),
    (WITH_PAIRS, 1, 0), (STATE,),
)

SOME_CALLS = (
    (START, [0, 0, 1, 1]), (EXCHANGE, 0, 3), (LATER, 1), (PAIRS, 2), (TABLE,), (LYING,), (TOTAL,), (NEAR,),
    (SAME, [0, 1, 0, 1]), (EXCHANGE, 4, 0), (START, [0, 0]), (SAME, [2, 1, 0, 1]), (START, [1, 1, 1]), (TABLE,),
    (START, [1, 1, 0, 0]), (DIFFER, [0, 1, 0, 1]), (FIND, [0, 4, 0, 4]), (KINDS, 8), (TABLES, 7), (ALIKE, [0, 1, 1, 0]),
    (FIRST,), (WITH_PAIRS, 2, 2), (STATE,), (DIFFER, []), (FIND, [1, 2, 3]), (KINDS, 0), (TABLES, 9), (ALIKE, [2]),
)

QUIET_CALLS = (
    (DIFFER, [0, 1, 0, 1]), (DIFFER, [1, 1, 0, 0]), (DIFFER, []), (DIFFER, [0, 0, 0, 0]), (FIND, [0, 2]),
    (FIND, [0, 2, 0, 4]), (FIND, [0, 4, 0, 4]), (FIND, [7]), (FIND, []), (KINDS, 4), (KINDS, 0), (TABLES, 4),
    (TABLES, 9), (ALIKE, [0, 1, 0, 1]), (ALIKE, [1, 1, 0, 0]), (ALIKE, [2]), (FIRST,), (WITH_PAIRS, 2, 2),
    (WITH_PAIRS, LARGEST, LARGEST), (STATE,),
)


class Untouchable(list):
    """A list that can be read alone."""

    def refuse(self, *numbers, **names):
        raise AssertionError("the list that is handed in is changed")

    __setitem__ = __delitem__ = __iadd__ = __imul__ = refuse
    append = clear = extend = insert = pop = remove = reverse = sort = refuse


class Written(unittest.TestCase):
    """How calls and answers stand in their lists."""

    def test_answers_number_by_number(self):
        calls = [0, 4, 0, 0, 1, 1, 1, 0, 2, 2, 1, 3, 2, 4, 5, 6, 7, 8, 4, 0, 1, 0, 1, 1, 9, 9, 0, 0]
        self.assertEqual(answers(calls), [
            1, 4,
            5, 4, 1, 0, 0, 1,
            5, 4, 0, 0, 1, 1,
            3, 2, 1, 1,
            5, 4, 0, 2, 0, 4,
            4, 3, 1, 1, 2,
            1, 6,
            1, 2,
            1, 0,
            1, -2,
            1, -22,
        ])

    def test_answers_of_the_later_calls_number_by_number(self):
        calls = [0, 4, 1, 1, 0, 0, 9, 4, 0, 1, 0, 1, 10, 3, 0, 0, 3, 11, 6, 12, 7, 13, 2, 0, 1, 14, 15, 2, 4, 16,
                 9, 0, 10, 1, 16, 11, 9, 12, 0, 13, 1, 14]
        self.assertEqual(answers(calls), [
            1, 4,
            1, 2,
            4, 3, 0, 0, 0,
            1, 4,
            1, 3,
            1, 0,
            5, 4, 0, 0, 1, 1,
            1, 2,
            5, 4, 1, 1, 0, 0,
            1, -22,
            1, -33,
            1, -22,
            1, -22,
            1, -22,
        ])

    def test_whole_numbers_in_a_list(self):
        told = answers(written(*SOME_CALLS))
        self.assertIs(type(told), list)
        for number in told:
            self.assertIs(type(number), int)

    def test_a_row_is_passed_over_whole(self):
        row = [0, 2, 0, 1] * 15
        for call in (SAME, DIFFER, FIND, ALIKE):
            self.assertEqual(ask((call, row), (TABLE,)), [[-11], [-11]])
            self.assertEqual(ask_of([0, 1], (call, row), (TABLE,)), [[-22], [2, 0, 2]])

    def test_two_hundred_calls(self):
        told = ask(*([(START, [1] * 60)] * 199 + [(START, [1] * 3)]))
        self.assertEqual(told, [[-22]] * 199 + [[3]])
        told = ask_of([0, 1], *([(LATER, 1)] * 199))
        self.assertEqual(told, [[2, 1, 0], [2, 0, 1]] * 99 + [[2, 1, 0]])


class NotKept(unittest.TestCase):
    """What is not changed and not kept."""

    def test_the_list_is_as_it_was(self):
        calls = written(*SOME_CALLS)
        before = list(calls)
        answers(calls)
        self.assertEqual(calls, before)

    def test_the_list_is_not_changed_for_a_while_either(self):
        calls = written(*SOME_CALLS)
        self.assertEqual(answers(Untouchable(calls)), answers(calls))

    def test_what_is_answered_is_another_list(self):
        calls = written(*SOME_CALLS)
        first = answers(calls)
        kept = list(first)
        first.clear()
        self.assertEqual(answers(calls), kept)

    def test_a_second_time_is_as_the_first(self):
        calls = written(*SOME_CALLS)
        self.assertEqual(answers(calls), answers(calls))

    def test_no_word_stays_from_one_time_to_the_next(self):
        ask((START, [0, 1]))
        self.assertEqual(ask((TABLE,)), [[-11]])


class Quiet(unittest.TestCase):
    """The calls that tell and change nothing."""

    def test_each_leaves_the_word(self):
        for word in ([0, 1], [1, 1, 1], [1, 0, 0, 1], [0, 0, 1, 0, 0], [1, 1, 0, 1, 0, 1, 0, 0]):
            for call in QUIET_CALLS:
                with self.subTest(word=word, call=call):
                    self.assertEqual(ask_of(word, call, (STATE,))[1], [len(word)] + word)

    def test_asked_again_they_answer_as_before(self):
        told = ask_of([1, 0, 0, 1], *QUIET_CALLS, *QUIET_CALLS)
        self.assertEqual(told[:len(QUIET_CALLS)], told[len(QUIET_CALLS):])


class New(unittest.TestCase):
    """An object before a start, and starts behind the first."""

    def test_every_other_call_before_a_start(self):
        for call in OTHER_CALLS:
            with self.subTest(call=call):
                self.assertEqual(ask(call), [[-11]])
        self.assertEqual(ask(*OTHER_CALLS), [[-11]] * len(OTHER_CALLS))

    def test_wrong_inputs_before_a_start(self):
        told = ask((EXCHANGE, LARGEST, 0), (LATER, LARGEST), (PAIRS, LARGEST), (SAME, []), (SAME, [7] * 60))
        self.assertEqual(told, [[-11]] * 5)
        told = ask((DIFFER, []), (DIFFER, [7] * 60), (FIND, []), (FIND, [7] * 60), (KINDS, 0), (KINDS, LARGEST),
                   (TABLES, 0), (TABLES, LARGEST), (ALIKE, []), (ALIKE, [7] * 60), (WITH_PAIRS, LARGEST, LARGEST))
        self.assertEqual(told, [[-11]] * 11)

    def test_a_refused_start_is_none(self):
        for word, refused in (([], -22), ([0, 2], -22), ([0] * 9, -22), ([0, 0], -33), ([1], -33)):
            with self.subTest(word=word):
                self.assertEqual(ask((START, word), *OTHER_CALLS), [[refused]] + [[-11]] * len(OTHER_CALLS))

    def test_a_start_behind_calls_without_a_word(self):
        self.assertEqual(ask((TABLE,), (START, [0, 1]), (TABLE,)), [[-11], [2], [2, 0, 2]])

    def test_a_refused_start_leaves_the_word(self):
        for word, refused in (([], -22), ([0, 2], -22), ([1] * 9, -22), ([1] * 60, -22), ([0, 0], -33), ([1], -33)):
            with self.subTest(word=word):
                told = ask_of([0, 0, 1, 1], (START, word), (LATER, 0), (LYING,))
                self.assertEqual(told, [[refused], [4, 0, 0, 1, 1], [3, 1, 1, 2]])

    def test_a_start_may_come_again(self):
        told = ask_of([0, 0, 1, 1], (START, [1, 1, 1]), (LATER, 0), (TABLE,), (START, [1, 0]), (LATER, 1))
        self.assertEqual(told, [[3], [3, 1, 1, 1], [3, 0, 0, 3], [2], [2, 0, 1]])


if __name__ == "__main__":
    unittest.main()
