"""place and on: on which pages a span is, and which spans are on a page."""

import unittest

from helper import HIGHEST, LONGEST, answers_to, begin, drop, edit, last_answer, on, pages, place, put


class PlaceTest(unittest.TestCase):
    def pages_of(self, size, row, span):
        told = last_answer(begin(size), pages(*row), put(*span), place(0))
        self.assertEqual((told[0], *told[3:]), (0, 0, 0, 0))
        return told[1:3]

    def test_within_one_page_and_over_several(self):
        row = (0, 10, 20)
        self.assertEqual(self.pages_of(30, row, (0, 1)), (0, 0))
        self.assertEqual(self.pages_of(30, row, (3, 7)), (0, 0))
        self.assertEqual(self.pages_of(30, row, (3, 13)), (0, 1))
        self.assertEqual(self.pages_of(30, row, (3, 23)), (0, 2))
        self.assertEqual(self.pages_of(30, row, (12, 13)), (1, 1))
        self.assertEqual(self.pages_of(30, row, (29, 30)), (2, 2))
        self.assertEqual(self.pages_of(30, row, (0, 30)), (0, 2))

    def test_at_the_edges_of_a_page(self):
        row = (0, 10, 20)
        self.assertEqual(self.pages_of(30, row, (9, 10)), (0, 0))
        self.assertEqual(self.pages_of(30, row, (9, 11)), (0, 1))
        self.assertEqual(self.pages_of(30, row, (10, 11)), (1, 1))
        self.assertEqual(self.pages_of(30, row, (10, 20)), (1, 1))
        self.assertEqual(self.pages_of(30, row, (10, 21)), (1, 2))
        self.assertEqual(self.pages_of(30, row, (9, 20)), (0, 1))
        self.assertEqual(self.pages_of(30, row, (19, 20)), (1, 1))
        self.assertEqual(self.pages_of(30, row, (20, 21)), (2, 2))

    def test_one_page(self):
        self.assertEqual(last_answer(begin(30), put(0, 30), place(0)), (0, 0, 0, 0, 0, 0))
        self.assertEqual(self.pages_of(30, (0,), (29, 30)), (0, 0))

    def test_several_pages_begin_at_one_place(self):
        row = (0, 10, 10, 10, 20)
        self.assertEqual(self.pages_of(30, row, (9, 10)), (0, 0))
        self.assertEqual(self.pages_of(30, row, (10, 11)), (3, 3))
        self.assertEqual(self.pages_of(30, row, (9, 11)), (0, 3))
        self.assertEqual(self.pages_of(30, row, (19, 21)), (3, 4))

    def test_the_first_pages_are_empty(self):
        self.assertEqual(self.pages_of(30, (0, 0, 0, 5), (0, 1)), (2, 2))
        self.assertEqual(self.pages_of(30, (0, 0, 0, 5), (0, 6)), (2, 3))

    def test_pages_that_begin_at_the_length(self):
        self.assertEqual(self.pages_of(30, (0, 30), (0, 30)), (0, 0))
        self.assertEqual(self.pages_of(30, (0, 29, 30, 30), (0, 30)), (0, 1))
        self.assertEqual(self.pages_of(30, (0, 29, 30, 30), (29, 30)), (1, 1))

    def test_each_character_of_a_row_of_pages(self):
        row = (0, 0, 3, 4, 4, 4, 9, 12, 12)
        for spot in range(12):
            own = max(page for page, begins in enumerate(row) if begins <= spot)
            with self.subTest(spot=spot):
                self.assertEqual(self.pages_of(12, row, (spot, spot + 1)), (own, own))

    def test_the_longest_text_and_many_pages(self):
        self.assertEqual(self.pages_of(LONGEST, (0, LONGEST - 1, LONGEST), (0, LONGEST)), (0, 1))
        row = tuple(range(0, 29800 * 2, 2))
        for page in (0, 1, 2, 14899, 14900, 29798, 29799):
            with self.subTest(page=page):
                self.assertEqual(self.pages_of(29800 * 2, row, (page * 2, page * 2 + 2)), (page, page))

    def test_kind_main_and_note(self):
        told = answers_to(
            begin(30), pages(0, 5, 9), put(0, 6, 0, 1, 0), put(5, 6, 1, 0, 16777215), put(9, 10, 2), put(4, 10, 3),
            place(0), place(1), place(2), place(3),
        )
        self.assertEqual(told[6:], [
            (0, 0, 1, 0, 1, 0), (0, 1, 1, 1, 0, 16777215), (0, 2, 2, 2, 0, 0), (0, 0, 2, 3, 0, 0),
        ])

    def test_they_follow_edits(self):
        laid_out = [begin(30), pages(0, 10, 20), put(8, 12)]
        for one, told in (
            ((0, 0, 3), (0, 1)), ((8, 2, 0), (1, 1)), ((10, 2, 0), (0, 0)), ((8, 2, 5), (1, 1)), ((10, 2, 5), (0, 0)),
            ((9, 1, 20), (0, 1)), ((9, 2, 0), (0, 1)), ((10, 0, 7), (0, 1)),
        ):
            with self.subTest(edit=one):
                self.assertEqual(last_answer(*laid_out, edit(*one), place(0))[1:3], told)

    def test_they_follow_new_pages(self):
        told = answers_to(begin(30), put(8, 12), place(0), pages(0, 9), place(0), pages(0, 1, 2, 3), place(0))
        self.assertEqual([answer[1:3] for answer in told[2::2]], [(0, 0), (0, 1), (3, 3)])

    def test_no_such_span(self):
        self.assertEqual(answers_to(place(0), place(HIGHEST)), [(-3,)] * 2)
        told = answers_to(begin(9), put(0, 1), place(1), place(65535), place(65536), place(HIGHEST), place(0))
        self.assertEqual(told[2:], [(-3,)] * 4 + [(0, 0, 0, 0, 0, 0)])
        self.assertEqual(last_answer(begin(9), put(0, 1), drop(0), place(0)), (-3,))
        self.assertEqual(last_answer(begin(9), put(0, 1), edit(0, 1, 1), place(0)), (-3,))
        self.assertEqual(last_answer(begin(9), put(0, 1), begin(9), place(0)), (-3,))


class OnTest(unittest.TestCase):
    def spans_on(self, size, row, *spans):
        ahead = [begin(size), pages(*row), *[put(*span) for span in spans]]
        told = answers_to(*ahead, *[on(page) for page in range(len(row))])[len(ahead):]
        self.assertEqual({answer[0] for answer in told}, {0})
        return [answer[1:] for answer in told]

    def test_spans_within_pages_and_over_them(self):
        spans = ((3, 7), (3, 13), (10, 20), (15, 25), (20, 30), (0, 30))
        self.assertEqual(self.spans_on(30, (0, 10, 20), *spans), [(5, 1, 0), (5, 1, 2, 3), (5, 3, 4)])

    def test_at_the_edges_of_a_page(self):
        spans = ((9, 10), (10, 11), (19, 20), (20, 21))
        self.assertEqual(self.spans_on(30, (0, 10, 20), *spans), [(0,), (1, 2), (3,)])

    def test_a_span_over_an_empty_page_is_on_it(self):
        self.assertEqual(self.spans_on(30, (0, 10, 10, 20), (9, 11)), [(0,), (0,), (0,), ()])
        self.assertEqual(self.spans_on(30, (0, 10, 10, 10, 20), (9, 11)), [(0,), (0,), (0,), (0,), ()])
        self.assertEqual(self.spans_on(30, (0, 10, 10, 20), (0, 30)), [(0,)] * 4)

    def test_a_span_beside_an_empty_page_is_not_on_it(self):
        self.assertEqual(self.spans_on(30, (0, 10, 10, 20), (9, 10)), [(0,), (), (), ()])
        self.assertEqual(self.spans_on(30, (0, 10, 10, 20), (10, 11)), [(), (), (0,), ()])
        self.assertEqual(self.spans_on(30, (0, 0, 0, 20), (0, 11)), [(), (), (0,), ()])

    def test_pages_that_begin_at_the_length(self):
        self.assertEqual(self.spans_on(30, (0, 30), (0, 30)), [(0,), ()])
        self.assertEqual(self.spans_on(30, (0, 29, 30, 30), (0, 30), (29, 30)), [(0,), (0, 1), (), ()])

    def test_no_spans(self):
        self.assertEqual(answers_to(on(0)), [(0,)])
        self.assertEqual(self.spans_on(30, (0, 10)), [(), ()])
        self.assertEqual(self.spans_on(0, (0, 0)), [(), ()])

    def test_dropped_and_lost_ones_are_on_none(self):
        told = answers_to(begin(9), put(0, 2), put(4, 6), put(0, 9), drop(0), on(0), edit(4, 2, 0), on(0))
        self.assertEqual(told[5:], [(0, 2, 1), (0, 1), (0, 2)])

    def test_the_last_page_and_the_one_behind_it(self):
        self.assertEqual(answers_to(on(0), on(1), on(HIGHEST)), [(0,), (-1,), (-1,)])
        told = answers_to(begin(9), pages(0, 4, 9), put(0, 9), on(1), on(2), on(3), on(65536), on(HIGHEST))
        self.assertEqual(told[3:], [(0, 0), (0,), (-1,), (-1,), (-1,)])
        self.assertEqual(last_answer(begin(9), pages(0, 4), begin(9), on(1)), (-1,))

    def test_place_tells_the_same_pages(self):
        row = (0, 0, 3, 4, 4, 7, 9, 9)
        spans = [(source, to) for source in range(9) for to in range(source + 1, 10)]
        ahead = [begin(9), pages(*row), *[put(*span) for span in spans]]
        told = answers_to(*ahead, *[place(number) for number in range(len(spans))], *[on(page) for page in range(8)])
        places = told[len(ahead):-8]
        for page, answer in enumerate(told[-8:]):
            with self.subTest(page=page):
                there = [number for number, one in enumerate(places) if one[1] <= page <= one[2]]
                self.assertEqual(sorted(answer[1:]), there)

    def test_they_follow_edits(self):
        laid_out = [begin(30), pages(0, 10, 20), put(8, 12), put(10, 20), edit(9, 12, 1)]
        told = answers_to(*laid_out, on(0), on(1), on(2))[4:]
        self.assertEqual(told, [(0, 1), (0, 0), (0,), (0,)])
