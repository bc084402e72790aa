"""holds, and the order in which holds and on tell spans."""

import itertools
import unittest

from helper import HIGHEST, LONGEST, answers_to, begin, drop, edit, holds, last_answer, on, pages, put


class HoldsTest(unittest.TestCase):
    def test_from_its_first_character_to_its_last(self):
        told = answers_to(begin(10), put(3, 6), *[holds(spot) for spot in range(10)])[2:]
        self.assertEqual(told, [(0,)] * 3 + [(0, 0)] * 3 + [(0,)] * 4)

    def test_several_at_one_place(self):
        told = answers_to(begin(10), put(3, 6), put(0, 4), put(5, 10), put(0, 10), *[holds(n) for n in range(10)])[5:]
        self.assertEqual(told, [
            (0, 3, 1), (0, 3, 1), (0, 3, 1), (0, 3, 1, 0), (0, 3, 0), (0, 3, 0, 2),
            (0, 3, 2), (0, 3, 2), (0, 3, 2), (0, 3, 2),
        ])

    def test_a_place_one_below_the_length_and_at_it(self):
        told = answers_to(begin(10), put(0, 10), holds(9), holds(10), holds(11), holds(HIGHEST))
        self.assertEqual(told[2:], [(0, 0), (-1,), (-1,), (-1,)])
        self.assertEqual(answers_to(begin(10), holds(9), holds(10))[1:], [(0,), (-1,)])
        told = answers_to(begin(LONGEST), put(LONGEST - 1, LONGEST), holds(LONGEST - 1), holds(LONGEST))
        self.assertEqual(told[2:], [(0, 0), (-1,)])

    def test_a_text_of_no_characters(self):
        self.assertEqual(answers_to(holds(0), holds(1)), [(-1,)] * 2)
        self.assertEqual(answers_to(begin(4), begin(0), holds(0))[2:], [(-1,)])
        self.assertEqual(answers_to(begin(4), edit(0, 4, 0), holds(0))[1:], [(0,), (-1,)])

    def test_the_length_behind_an_edit(self):
        told = answers_to(begin(4), edit(4, 0, 2), holds(5), holds(6), edit(1, 3, 0), holds(2), holds(3))
        self.assertEqual(told[2:], [(0,), (-1,), (0,), (0,), (-1,)])

    def test_pages_do_not_count(self):
        self.assertEqual(last_answer(begin(9), put(2, 5), pages(0, 3, 3, 4), holds(3)), (0, 0))

    def test_dropped_and_lost_ones_hold_nothing(self):
        told = answers_to(begin(9), put(0, 9), put(2, 5), put(3, 4), drop(0), holds(3), edit(3, 1, 1), holds(3))
        self.assertEqual(told[5:], [(0, 1, 2), (0, 2), (0, 1)])

    def test_what_was_put_in(self):
        told = answers_to(begin(9), put(2, 5), put(3, 6), put(0, 3), edit(3, 0, 2), *[holds(n) for n in range(2, 6)])
        self.assertEqual(told[5:], [(0, 2, 0), (0, 0), (0, 0), (0, 0, 1)])


class OrderTest(unittest.TestCase):
    """Each span here holds place 5 and is on page 1."""

    def assert_order(self, spans, told):
        ahead = [begin(20), pages(0, 5, 6), *[put(*span) for span in spans]]
        answered = answers_to(*ahead, holds(5), on(1))[len(ahead):]
        self.assertEqual(answered, [(0, *told)] * 2)

    def test_by_from(self):
        self.assert_order([(5, 9), (3, 9), (4, 9), (0, 9)], (3, 1, 2, 0))

    def test_by_from_ahead_of_to(self):
        self.assert_order([(5, 20), (4, 6), (3, 7)], (2, 1, 0))

    def test_of_one_from_the_greater_to_first(self):
        self.assert_order([(4, 7), (4, 9), (4, 6), (4, 20)], (3, 1, 0, 2))

    def test_of_one_from_and_to_by_number(self):
        self.assert_order([(4, 7)] * 12, tuple(range(12)))

    def test_kind_main_and_note_do_not_count(self):
        spans = [(4, 7, 3, 0, 0), (4, 7, 1, 0, 9), (4, 7, 0, 1, 0), (4, 7, 1, 0, 2), (4, 7, 0, 0, 0)]
        self.assert_order(spans, (0, 1, 2, 3, 4))

    def test_all_three(self):
        spans = [(5, 6), (4, 7), (4, 8), (5, 9), (4, 7), (0, 6), (5, 6), (0, 6), (0, 7)]
        self.assert_order(spans, (8, 5, 7, 2, 1, 4, 3, 0, 6))

    def test_any_order_of_putting(self):
        spans = [(3, 9), (3, 7), (3, 7), (4, 20), (4, 6)]
        for turned in itertools.permutations(spans):
            told = sorted(range(5), key=lambda number: (turned[number][0], -turned[number][1], number))
            with self.subTest(spans=turned):
                self.assert_order(turned, told)

    def test_by_number_not_by_when_it_was_put(self):
        ahead = [begin(20), put(4, 7), put(4, 7), put(4, 7), drop(1), drop(0), put(4, 7), put(4, 7)]
        self.assertEqual(answers_to(*ahead, holds(5), on(0))[-2:], [(0, 0, 1, 2)] * 2)

    def test_by_what_they_are_behind_an_edit(self):
        # 0 and 1 change places: the edit takes the beginning of both, and 1 reaches further.
        ahead = [begin(20), put(2, 8), put(3, 9), put(0, 8)]
        told = answers_to(*ahead, holds(5), edit(1, 4, 0), holds(1), on(0))[4:]
        self.assertEqual(told, [(0, 2, 0, 1), (0,), (0, 2, 1, 0), (0, 2, 1, 0)])

    def test_several_hundred(self):
        ahead = [begin(400), *[put(0, to) for to in range(1, 399)]]
        self.assertEqual(last_answer(*ahead, holds(0)), (0, *range(397, -1, -1)))
