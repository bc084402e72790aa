"""get: what a span is told to be, and which numbers are no span's."""

import unittest

from helper import HIGHEST, LONGEST, answers_to, begin, drop, edit, full_desk, get, last_answer, pages, put


class GetTest(unittest.TestCase):
    def test_each_kind_as_it_was_put(self):
        spans = [
            (0, 10, 0, 0, 0), (2, 3, 0, 1, 0), (4, 9, 1, 0, 1), (4, 9, 1, 0, 16777215),
            (0, 1, 2, 0, 0), (9, 10, 3, 0, 0),
        ]
        told = answers_to(begin(10), *[put(*span) for span in spans], *[get(number) for number in range(6)])
        self.assertEqual(told[7:], [(0, *span) for span in spans])

    def test_the_longest_text(self):
        told = answers_to(begin(LONGEST), put(0, LONGEST), put(LONGEST - 1, LONGEST), get(0), get(1))
        self.assertEqual(told[3:], [(0, 0, LONGEST, 0, 0, 0), (0, LONGEST - 1, LONGEST, 0, 0, 0)])

    def test_asking_twice_tells_the_same(self):
        told = answers_to(begin(10), put(1, 4), get(0), get(0))
        self.assertEqual(told[2:], [(0, 1, 4, 0, 0, 0)] * 2)

    def test_pages_do_not_change_it(self):
        self.assertEqual(last_answer(begin(10), put(1, 4), pages(0, 2, 3), get(0)), (0, 1, 4, 0, 0, 0))

    def test_dropping_another_does_not_change_it(self):
        told = answers_to(begin(10), put(1, 4), put(2, 5), put(3, 6), drop(1), get(0), get(1), get(2))
        self.assertEqual(told[5:], [(0, 1, 4, 0, 0, 0), (-3,), (0, 3, 6, 0, 0, 0)])

    def test_a_number_given_anew_is_the_new_span(self):
        told = answers_to(begin(10), put(1, 4), put(2, 5), drop(0), put(7, 8, 2), get(0), get(1))
        self.assertEqual(told[5:], [(0, 7, 8, 2, 0, 0), (0, 2, 5, 0, 0, 0)])


class NoSuchSpanTest(unittest.TestCase):
    def test_on_a_new_desk(self):
        self.assertEqual(answers_to(get(0), get(1), get(HIGHEST)), [(-3,)] * 3)

    def test_a_number_never_given(self):
        for number in (1, 2, 65535, 65536, HIGHEST):
            with self.subTest(number=number):
                told = answers_to(begin(9), put(0, 1), get(number), get(0))
                self.assertEqual(told[2:], [(-3,), (0, 0, 1, 0, 0, 0)])

    def test_a_number_that_was_dropped(self):
        self.assertEqual(last_answer(begin(9), put(0, 1), drop(0), get(0)), (-3,))

    def test_a_number_that_was_lost(self):
        self.assertEqual(answers_to(begin(9), put(0, 1), edit(0, 1, 1), get(0))[2:], [(0, 0), (-3,)])

    def test_a_number_whose_put_was_refused(self):
        self.assertEqual(last_answer(begin(9), put(0, 10), get(0)), (-3,))

    def test_a_number_of_the_text_before(self):
        self.assertEqual(last_answer(begin(9), put(0, 1), begin(9), get(0)), (-3,))

    def test_the_highest_number_and_the_one_behind_it(self):
        # No list of calls is long enough for these, so the desk itself is asked.
        desk = full_desk()
        self.assertEqual(desk.get(65535), [0, 0, 1, 0, 0, 0])
        self.assertEqual(desk.get(65536), [-3])
        self.assertEqual(desk.place(65535), [0, 0, 0, 0, 0, 0])
        self.assertEqual(desk.place(65536), [-3])
