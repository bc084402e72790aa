"""put and drop: what is a span, and which number it is given."""

import unittest

from bookspans.desk import Span
from helper import HIGHEST, LONGEST, answers_to, begin, drop, full_desk, get, last_answer, pages, put

MOST_NOTE = 16777215


class SpanTest(unittest.TestCase):
    def assert_taken(self, *span, size=10):
        self.assertEqual(answers_to(begin(size), put(*span), put(*span))[1:], [(0, 0), (0, 1)])

    def assert_refused(self, *span, size=10):
        told = answers_to(begin(size), put(*span), drop(0))
        self.assertEqual(told[1:], [(-1,), (-3,)])

    def test_from_is_below_to(self):
        self.assert_taken(0, 1)
        self.assert_taken(3, 7)
        self.assert_taken(6, 7)
        self.assert_refused(7, 7)
        self.assert_refused(8, 7)
        self.assert_refused(0, 0)
        self.assert_refused(HIGHEST, 7)

    def test_to_is_at_most_the_length(self):
        self.assert_taken(0, 9)
        self.assert_taken(0, 10)
        self.assert_taken(9, 10)
        self.assert_refused(0, 11)
        self.assert_refused(10, 11)
        self.assert_refused(10, 10)
        self.assert_refused(11, 12)
        self.assert_refused(0, HIGHEST)

    def test_the_longest_text(self):
        self.assert_taken(0, LONGEST, size=LONGEST)
        self.assert_taken(LONGEST - 1, LONGEST, size=LONGEST)
        self.assert_refused(0, LONGEST + 1, size=LONGEST)

    def test_a_text_of_no_characters_has_no_span(self):
        self.assert_refused(0, 0, size=0)
        self.assert_refused(0, 1, size=0)

    def test_kinds(self):
        self.assert_taken(0, 1, 0, 0, 0)
        self.assert_taken(0, 1, 1, 0, 1)
        self.assert_taken(0, 1, 2, 0, 0)
        self.assert_taken(0, 1, 3, 0, 0)
        self.assert_refused(0, 1, 4, 0, 0)
        self.assert_refused(0, 1, 5, 0, 0)
        self.assert_refused(0, 1, HIGHEST, 0, 0)

    def test_plain_ones_alone_may_be_main(self):
        self.assert_taken(0, 1, 0, 1, 0)
        self.assert_refused(0, 1, 1, 1, 1)
        self.assert_refused(0, 1, 2, 1, 0)
        self.assert_refused(0, 1, 3, 1, 0)
        self.assert_refused(0, 1, 4, 1, 0)

    def test_numbers_of_notes(self):
        self.assert_refused(0, 1, 1, 0, 0)
        self.assert_taken(0, 1, 1, 0, 1)
        self.assert_taken(0, 1, 1, 0, 2)
        self.assert_taken(0, 1, 1, 0, MOST_NOTE)
        self.assert_refused(0, 1, 1, 0, MOST_NOTE + 1)
        self.assert_refused(0, 1, 1, 0, HIGHEST)

    def test_others_have_no_number_of_a_note(self):
        for kind in (0, 2, 3, 4):
            for note in (1, MOST_NOTE, MOST_NOTE + 1, HIGHEST):
                with self.subTest(kind=kind, note=note):
                    self.assert_refused(0, 1, kind, 0, note)
        self.assert_refused(0, 1, 0, 1, 1)

    def test_the_span_is_kept_as_it_was_put(self):
        told = answers_to(begin(10), put(2, 9, 1, 0, 77), put(3, 4, 0, 1, 0), get(0), get(1))
        self.assertEqual(told[3:], [(0, 2, 9, 1, 0, 77), (0, 3, 4, 0, 1, 0)])


class NumberTest(unittest.TestCase):
    def numbers(self, *calls):
        told = answers_to(begin(10), *calls)
        return [answer[1] for call, answer in zip(calls, told[1:]) if call[0] == 5]

    def test_from_0_on(self):
        self.assertEqual(self.numbers(put(0, 1), put(5, 6), put(2, 3)), [0, 1, 2])

    def test_the_same_span_again_is_another(self):
        self.assertEqual(self.numbers(put(0, 1), put(0, 1), put(0, 1)), [0, 1, 2])

    def test_the_least_free_behind_drops(self):
        four = [put(0, 1)] * 4
        self.assertEqual(self.numbers(*four, drop(1), put(0, 1), put(0, 1))[4:], [1, 4])
        self.assertEqual(self.numbers(*four, drop(2), drop(0), put(0, 1), put(0, 1), put(0, 1))[4:], [0, 2, 4])
        self.assertEqual(self.numbers(*four, drop(0), drop(2), put(0, 1), put(0, 1), put(0, 1))[4:], [0, 2, 4])
        self.assertEqual(self.numbers(*four, drop(3), put(0, 1), put(0, 1))[4:], [3, 4])
        self.assertEqual(self.numbers(*four, drop(0), drop(1), drop(2), drop(3), put(0, 1))[4:], [0])

    def test_a_number_is_given_and_freed_again_and_again(self):
        self.assertEqual(self.numbers(*[put(0, 1), drop(0)] * 50), [0] * 50)

    def test_from_0_on_behind_a_new_begin(self):
        told = answers_to(begin(9), put(0, 1), put(0, 1), begin(9), put(0, 1), put(0, 1))
        self.assertEqual(told[4:], [(0, 0), (0, 1)])
        told = answers_to(begin(9), put(0, 1), put(0, 1), drop(0), begin(9), put(0, 1), put(0, 1))
        self.assertEqual(told[5:], [(0, 0), (0, 1)])

    def test_refused_puts_take_no_number(self):
        told = answers_to(begin(9), put(0, 1), put(1, 1), put(0, 1, 4), put(0, 1))
        self.assertEqual(told[1:], [(0, 0), (-1,), (-1,), (0, 1)])

    def test_new_pages_free_no_number(self):
        self.assertEqual(self.numbers(put(0, 1), pages(0, 5), put(0, 1)), [0, 1])


class FullDeskTest(unittest.TestCase):
    def test_65536_spans_and_no_more(self):
        desk = full_desk()
        self.assertEqual(desk.put(Span(0, 1, 0, 0, 0)), [-2])
        self.assertEqual(len(desk.spans), 65536)

    def test_the_highest_number_can_be_dropped_and_given(self):
        desk = full_desk()
        self.assertEqual(desk.drop(65536), [-3])
        self.assertEqual(desk.drop(65535), [0, 0])
        self.assertEqual(desk.put(Span(0, 1, 0, 0, 0)), [0, 65535])
        self.assertEqual(desk.put(Span(0, 1, 0, 0, 0)), [-2])

    def test_a_new_begin_empties_it(self):
        desk = full_desk()
        desk.begin(10)
        self.assertEqual(desk.put(Span(0, 1, 0, 0, 0)), [0, 0])


class DropTest(unittest.TestCase):
    def test_a_span_that_is_there(self):
        told = answers_to(begin(9), put(0, 1), put(0, 2), put(0, 3), drop(1), drop(2), drop(0))
        self.assertEqual(told[4:], [(0, 0)] * 3)

    def test_a_number_that_was_dropped(self):
        told = answers_to(begin(9), put(0, 1), put(0, 2), drop(0), drop(0), drop(1), drop(1))
        self.assertEqual(told[3:], [(0, 0), (-3,), (0, 0), (-3,)])

    def test_a_number_never_given(self):
        for number in (1, 2, 65535, 65536, HIGHEST):
            with self.subTest(number=number):
                self.assertEqual(answers_to(begin(9), put(0, 1), drop(number), drop(0))[2:], [(-3,), (0, 0)])

    def test_a_number_given_anew(self):
        told = answers_to(begin(9), put(0, 1), drop(0), put(0, 1), drop(0), drop(0))
        self.assertEqual(told[3:], [(0, 0), (0, 0), (-3,)])

    def test_a_number_of_the_text_before(self):
        self.assertEqual(last_answer(begin(9), put(0, 1), begin(9), drop(0)), (-3,))
