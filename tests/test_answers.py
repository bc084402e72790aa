"""The interface: how calls and answers are laid out, what is kept and what is not."""

import unittest

from bookspans.spans import answers
from helper import (
    HIGHEST, LONGEST, answers_to, begin, drop, edit, get, holds, length, on, pages, place, put, start,
)

EACH_CALL = [
    begin(10), length(), pages(0, 3, 9), pages(0, 11), start(1), start(3), put(0, 4), put(2, 6, 1, 0, 5), put(9, 9),
    get(0), get(2), place(1), place(2), holds(3), holds(10), on(0), on(3), edit(2, 4, 1), edit(7, 1, 0),
    edit(0, 0, LONGEST), drop(0), drop(HIGHEST),
]
EACH_CALL_IN_A_LIST = [number for call in EACH_CALL for number in call]


class LayoutTest(unittest.TestCase):
    def test_each_call_as_it_stands_in_the_list(self):
        calls = [1, 10, 2, 3, 3, 0, 4, 8, 4, 1, 5, 2, 6, 0, 1, 0, 6, 0]
        told = [2, 0, 0, 2, 0, 10, 2, 0, 0, 2, 0, 4, 2, 0, 0, 2, 0, 0]
        self.assertEqual(answers(calls), told)

    def test_each_refusal_is_one_number_below_0(self):
        calls = [1, 2147483648, 3, 0, 4, 1, 5, 0, 1, 0, 0, 0, 6, 0]
        self.assertEqual(answers(calls), [1, -1, 1, -1, 1, -1, 1, -1, 1, -3])
        calls = [7, 0, 8, 0, 1, 0, 8, 0, 0, 2147483648, 9, 0, 10, 0, 11, 1]
        self.assertEqual(answers(calls), [1, -3, 1, -1, 1, -2, 1, -3, 1, -1, 1, -1])

    def test_get_edit_place_holds_and_on_as_they_stand_in_the_list(self):
        calls = [1, 20, 3, 2, 0, 8, 5, 4, 9, 1, 0, 6, 5, 2, 9, 0, 0, 0, 7, 0, 9, 1, 10, 5, 11, 1, 8, 4, 6, 3, 7, 1]
        told = [2, 0, 0, 2, 0, 0, 2, 0, 0, 2, 0, 1]
        told += [6, 0, 4, 9, 1, 0, 6, 6, 0, 0, 1, 0, 0, 0, 3, 0, 1, 0, 3, 0, 1, 0, 2, 0, 0, 6, 0, 2, 4, 0, 0, 0]
        self.assertEqual(answers(calls), told)

    def test_spans_are_told_without_how_many(self):
        calls = begin(9) + put(0, 2) * 3 + [10, 0, 11, 0, 8, 0, 2, 0]
        self.assertEqual(answers(calls), [2, 0, 0, 2, 0, 0, 2, 0, 1, 2, 0, 2] + [4, 0, 0, 1, 2] * 3)

    def test_no_span_is_0_alone(self):
        self.assertEqual(answers([1, 9, 10, 0, 11, 0, 8, 0, 0, 0]), [2, 0, 0, 1, 0, 1, 0, 1, 0])

    def test_pages_without_starts_has_its_count_alone(self):
        self.assertEqual(answers([3, 0, 2]), [1, -1, 2, 0, 0])

    def test_starts_that_look_like_calls_are_starts(self):
        self.assertEqual(answers([1, 9, 3, 4, 0, 1, 5, 6, 4, 3]), [2, 0, 0, 2, 0, 0, 2, 0, 6])

    def test_the_call_behind_refused_pages_is_found(self):
        self.assertEqual(answers([3, 3, 1, 1, 1, 2]), [1, -1, 2, 0, 0])

    def test_a_list_of_whole_numbers_comes_back(self):
        told = answers(EACH_CALL_IN_A_LIST)
        self.assertIs(type(told), list)
        self.assertEqual({type(number) for number in told}, {int})

    def test_400_calls(self):
        told = answers(begin(1) + put(0, 1) * 399)
        expected = [2, 0, 0]
        for number in range(399):
            expected += [2, 0, number]
        self.assertEqual(told, expected)

    def test_30000_numbers(self):
        calls = begin(7) + pages(*[0] * 29900) + length() * 96
        self.assertEqual(len(calls), 30000)
        self.assertEqual(answers(calls), [2, 0, 0, 2, 0, 0] + [2, 0, 7] * 96)

    def test_many_edits_of_many_pages(self):
        row = list(range(28404))
        calls = begin(30000) + pages(*row) + edit(5, 1, 1) * 397 + start(5)
        self.assertEqual(len(calls), 29998)
        self.assertEqual(answers(calls)[-3:], [2, 0, 6])


class NewDeskTest(unittest.TestCase):
    def test_no_characters(self):
        self.assertEqual(answers_to(length()), [(0, 0)])

    def test_one_page_from_0(self):
        self.assertEqual(answers_to(start(0), start(1)), [(0, 0), (-1,)])

    def test_no_spans(self):
        self.assertEqual(answers_to(drop(0), drop(1), drop(65535)), [(-3,)] * 3)
        self.assertEqual(answers_to(get(0), place(0), on(0)), [(-3,), (-3,), (0,)])

    def test_calls_ahead_of_any_begin(self):
        self.assertEqual(
            answers_to(put(0, 1), pages(0, 1), pages(0, 0), start(1), length()),
            [(-1,), (-1,), (0, 0), (0, 0), (0, 0)],
        )

    def test_nothing_is_kept_from_one_list_to_the_next(self):
        filled = begin(10) + pages(0, 5) + put(0, 10) + put(1, 2) + edit(0, 2, 3)
        asked = length() + start(0) + start(1) + drop(0) + get(0) + place(0) + holds(0) + on(0) + on(1)
        first = answers(asked)
        answers(filled)
        self.assertEqual(answers(asked), first)
        self.assertEqual(first, [2, 0, 0, 2, 0, 0, 1, -1, 1, -3, 1, -3, 1, -3, 1, -1, 1, 0, 1, -1])
        self.assertEqual(answers(filled), answers(filled))


class HandedInTest(unittest.TestCase):
    def test_the_list_is_the_same_afterwards(self):
        calls = list(EACH_CALL_IN_A_LIST)
        answers(calls)
        self.assertEqual(calls, EACH_CALL_IN_A_LIST)
        for call in EACH_CALL:
            with self.subTest(call=call):
                handed_in = list(call)
                answers(handed_in)
                self.assertEqual(handed_in, call)

    def test_the_list_is_not_changed_for_a_while_either(self):
        class Watched(list):
            def refuse(self, *given):
                raise AssertionError("the list handed in was changed")

            append = extend = insert = pop = remove = clear = reverse = sort = refuse
            __setitem__ = __delitem__ = __iadd__ = __imul__ = refuse

        self.assertEqual(answers(Watched(EACH_CALL_IN_A_LIST)), answers(EACH_CALL_IN_A_LIST))

    def test_the_answer_is_another_list_each_time(self):
        first = answers(length())
        first.append(5)
        self.assertEqual(answers(length()), [2, 0, 0])
