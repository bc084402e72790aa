"""begin, length, pages and start."""

import unittest

from bookspans.desk import Desk
from helper import HIGHEST, LONGEST, answers_to, begin, drop, last_answer, length, pages, put, start


class BeginTest(unittest.TestCase):
    def test_lengths_that_may_be(self):
        for size in (0, 1, 2, 1000, LONGEST - 1, LONGEST):
            with self.subTest(size=size):
                self.assertEqual(answers_to(begin(size), length()), [(0, 0), (0, size)])

    def test_lengths_above_the_limit(self):
        for size in (LONGEST + 1, LONGEST + 2, HIGHEST):
            with self.subTest(size=size):
                self.assertEqual(answers_to(begin(4), begin(size), length()), [(0, 0), (-1,), (0, 4)])

    def test_the_last_begin_counts(self):
        self.assertEqual(last_answer(begin(9), begin(3), length()), (0, 3))
        self.assertEqual(last_answer(begin(3), begin(9), length()), (0, 9))
        self.assertEqual(last_answer(begin(3), begin(0), length()), (0, 0))

    def test_it_takes_spans_away(self):
        told = answers_to(begin(9), put(0, 3), put(1, 4), begin(9), drop(0), drop(1))
        self.assertEqual(told[-3:], [(0, 0), (-3,), (-3,)])

    def test_it_takes_pages_away(self):
        told = answers_to(begin(9), pages(0, 3, 6), begin(9), start(0), start(1), start(2))
        self.assertEqual(told[-4:], [(0, 0), (0, 0), (-1,), (-1,)])


class PagesTest(unittest.TestCase):
    def starts_told(self, size, starts):
        asked = [start(page) for page in range(len(starts) + 1)]
        return answers_to(begin(size), pages(*starts), *asked)[1:]

    def assert_taken(self, size, starts):
        told = [(0, place) for place in starts]
        self.assertEqual(self.starts_told(size, starts), [(0, 0)] + told + [(-1,)])

    def assert_refused(self, size, starts):
        told = answers_to(begin(size), pages(0, 0, 0), pages(*starts), start(0), start(2), start(3))
        self.assertEqual(told[2:], [(-1,), (0, 0), (0, 0), (-1,)])

    def test_starts_that_rise(self):
        self.assert_taken(10, (0, 1))
        self.assert_taken(10, (0, 3, 4, 9))

    def test_one_start(self):
        self.assert_taken(10, (0,))
        self.assert_taken(0, (0,))

    def test_no_start(self):
        self.assert_refused(10, ())
        self.assert_refused(0, ())

    def test_the_first_is_not_0(self):
        self.assert_refused(10, (1,))
        self.assert_refused(10, (1, 2))
        self.assert_refused(10, (10, 10))
        self.assert_refused(10, (HIGHEST,))

    def test_starts_that_fall(self):
        self.assert_refused(10, (0, 5, 4))
        self.assert_refused(10, (0, 5, 0))
        self.assert_refused(10, (0, 2, 5, 4, 6))
        self.assert_refused(10, (0, 1, 0, 2))

    def test_starts_twice_the_same(self):
        self.assert_taken(10, (0, 0))
        self.assert_taken(10, (0, 5, 5, 6))
        self.assert_taken(10, (0, 0, 0, 10, 10))

    def test_a_start_at_the_length_and_above_it(self):
        self.assert_taken(10, (0, 9))
        self.assert_taken(10, (0, 10))
        self.assert_refused(10, (0, 11))
        self.assert_refused(10, (0, 11, 11))
        self.assert_refused(10, (0, 4, HIGHEST))
        self.assert_taken(0, (0, 0))
        self.assert_refused(0, (0, 1))
        self.assert_taken(LONGEST, (0, LONGEST))
        self.assert_refused(LONGEST, (0, LONGEST + 1))

    def test_above_the_length_and_falling_again(self):
        self.assert_refused(10, (0, 11, 5))

    def test_as_many_as_may_be_handed_in(self):
        rising = list(range(29900))
        asked = [start(page) for page in (0, 1, 14950, 29898, 29899, 29900)]
        self.assertEqual(
            answers_to(begin(29899), pages(*rising), *asked)[1:],
            [(0, 0), (0, 0), (0, 1), (0, 14950), (0, 29898), (0, 29899), (-1,)],
        )
        self.assertEqual(last_answer(begin(29898), pages(*rising)), (-1,))
        self.assertEqual(last_answer(begin(29899), pages(*rising[:-1], 0)), (-1,))

    def test_at_most_65536_pages(self):
        # No list of calls is long enough for these, so the desk itself is asked.
        desk = Desk()
        self.assertEqual(desk.pages([0] * 65536), [0, 0])
        self.assertEqual(desk.start(65535), [0, 0])
        self.assertEqual(desk.start(65536), [-1])
        self.assertEqual(desk.pages([0]), [0, 0])
        self.assertEqual(desk.pages([0] * 65537), [-1])
        self.assertEqual(desk.start(1), [-1])

    def test_they_come_in_place_of_those_before(self):
        told = answers_to(begin(9), pages(0, 3, 6), pages(0, 4), start(0), start(1), start(2))
        self.assertEqual(told[2:], [(0, 0), (0, 0), (0, 4), (-1,)])

    def test_spans_and_length_stay(self):
        told = answers_to(begin(9), put(0, 3), pages(0, 3), length(), put(0, 3), drop(0))
        self.assertEqual(told[2:], [(0, 0), (0, 9), (0, 1), (0, 0)])

    def test_the_desk_keeps_its_own_copy(self):
        desk = Desk()
        starts = [0, 0]
        desk.pages(starts)
        starts.append(0)
        self.assertEqual(desk.start(2), [-1])


class StartTest(unittest.TestCase):
    def test_pages_that_are_there(self):
        told = answers_to(begin(20), pages(0, 7, 7, 20), start(3), start(0), start(2), start(1))
        self.assertEqual(told[2:], [(0, 20), (0, 0), (0, 7), (0, 7)])

    def test_pages_that_are_not(self):
        told = answers_to(begin(20), pages(0, 7), start(1), start(2), start(3), start(HIGHEST))
        self.assertEqual(told[2:], [(0, 7), (-1,), (-1,), (-1,)])

    def test_the_one_page_of_a_new_text(self):
        self.assertEqual(answers_to(begin(20), start(0), start(1))[1:], [(0, 0), (-1,)])
