"""edit: what it does to the length and to spans, and which spans are lost."""

import unittest

from helper import (
    HIGHEST, LONGEST, answers_to, begin, drop, edit, full_desk, get, last_answer, length, pages, place, put, start,
)

LOST = None


class SpanMovedTest(unittest.TestCase):
    """Told on a text of 30 characters; an edit at 10 unless it says otherwise."""

    def after(self, span, *edits):
        told = answers_to(begin(30), put(*span), *[edit(*one) for one in edits], get(0))
        if told[-1] == (-3,):
            self.assertIn((0, 0), told[2:-1])
            return LOST
        self.assertEqual(told[2:-1], [(0,)] * len(edits))
        self.assertEqual(told[-1][3:], (0, 0, 0))
        return told[-1][1:3]

    def assert_each(self, at, cut, new, expected):
        for span, moved in expected.items():
            with self.subTest(span=span):
                self.assertEqual(self.after(span, (at, cut, new)), moved)

    def test_cut_and_put(self):
        # from and to: below 10, at 10, between, at 14, one above it.
        self.assert_each(10, 4, 7, {
            (2, 9): (2, 9), (9, 10): (9, 10), (9, 12): (9, 10), (9, 14): (9, 10), (9, 15): (9, 18),
            (10, 11): LOST, (10, 12): LOST, (10, 14): LOST, (10, 15): (17, 18),
            (11, 12): LOST, (12, 13): LOST, (13, 14): LOST, (13, 15): (17, 18), (12, 20): (17, 23),
            (14, 15): (17, 18), (14, 30): (17, 33), (15, 16): (18, 19), (29, 30): (32, 33), (0, 30): (0, 33),
        })

    def test_cut_more_than_is_put(self):
        self.assert_each(10, 6, 2, {
            (2, 9): (2, 9), (9, 10): (9, 10), (9, 11): (9, 10), (9, 16): (9, 10), (9, 17): (9, 13),
            (10, 16): LOST, (10, 17): (12, 13), (13, 15): LOST, (15, 17): (12, 13),
            (16, 17): (12, 13), (17, 18): (13, 14), (0, 30): (0, 26),
        })

    def test_put_alone(self):
        self.assert_each(10, 0, 5, {
            (5, 9): (5, 9), (5, 10): (5, 10), (9, 10): (9, 10), (9, 11): (9, 16), (5, 11): (5, 16),
            (10, 11): (15, 16), (10, 30): (15, 35), (11, 12): (16, 17), (0, 30): (0, 35),
        })

    def test_cut_alone(self):
        self.assert_each(10, 4, 0, {
            (5, 9): (5, 9), (5, 10): (5, 10), (5, 11): (5, 10), (5, 14): (5, 10), (5, 15): (5, 11),
            (10, 14): LOST, (10, 15): (10, 11), (12, 13): LOST, (13, 14): LOST, (13, 15): (10, 11),
            (14, 15): (10, 11), (15, 16): (11, 12), (0, 30): (0, 26),
        })

    def test_neither_cut_nor_put(self):
        spans = ((5, 9), (5, 10), (9, 11), (10, 11), (10, 30), (11, 12), (0, 30))
        self.assert_each(10, 0, 0, {span: span for span in spans})

    def test_as_many_put_as_cut(self):
        self.assert_each(10, 4, 4, {
            (5, 10): (5, 10), (5, 11): (5, 10), (5, 14): (5, 10), (5, 15): (5, 15), (10, 14): LOST,
            (10, 15): (14, 15), (13, 16): (14, 16), (14, 16): (14, 16), (11, 13): LOST,
        })

    def test_at_the_beginning_of_the_text(self):
        self.assert_each(0, 0, 3, {(0, 1): (3, 4), (0, 30): (3, 33), (1, 2): (4, 5)})
        self.assert_each(0, 2, 3, {(0, 1): LOST, (0, 2): LOST, (0, 3): (3, 4), (2, 3): (3, 4)})
        self.assert_each(0, 2, 0, {(0, 1): LOST, (0, 2): LOST, (0, 3): (0, 1), (2, 3): (0, 1)})

    def test_at_the_end_of_the_text(self):
        self.assert_each(30, 0, 3, {(0, 30): (0, 30), (29, 30): (29, 30)})
        self.assert_each(28, 2, 3, {(0, 30): (0, 28), (27, 29): (27, 28), (28, 30): LOST, (29, 30): LOST})

    def test_the_whole_text(self):
        self.assert_each(0, 30, 9, {(0, 30): LOST, (4, 5): LOST, (29, 30): LOST})
        self.assert_each(0, 30, 0, {(0, 30): LOST, (4, 5): LOST, (29, 30): LOST})

    def test_a_span_cut_in_each_way(self):
        span = (10, 20)
        self.assertEqual(self.after(span, (10, 10, 0)), LOST)
        self.assertEqual(self.after(span, (9, 12, 0)), LOST)
        self.assertEqual(self.after(span, (10, 9, 0)), (10, 11))
        self.assertEqual(self.after(span, (11, 9, 0)), (10, 11))
        self.assertEqual(self.after(span, (8, 4, 0)), (8, 16))
        self.assertEqual(self.after(span, (18, 4, 0)), (10, 18))
        self.assertEqual(self.after(span, (13, 4, 0)), (10, 16))

    def test_what_is_put_is_held_between_two_that_are_left_alone(self):
        span = (10, 20)
        self.assertEqual(self.after(span, (10, 0, 4)), (14, 24))
        self.assertEqual(self.after(span, (20, 0, 4)), (10, 20))
        self.assertEqual(self.after(span, (11, 0, 4)), (10, 24))
        self.assertEqual(self.after(span, (19, 0, 4)), (10, 24))
        self.assertEqual(self.after(span, (11, 8, 4)), (10, 16))
        self.assertEqual(self.after(span, (10, 9, 4)), (14, 15))
        self.assertEqual(self.after(span, (11, 9, 4)), (10, 11))
        self.assertEqual(self.after(span, (10, 10, 4)), LOST)

    def test_kind_main_and_note_stay(self):
        told = answers_to(
            begin(20), put(5, 9, 0, 1, 0), put(5, 9, 1, 0, 33), put(5, 9, 2), put(5, 9, 3), edit(0, 6, 2),
            *[get(number) for number in range(4)],
        )
        self.assertEqual(told[5:], [
            (0,), (0, 2, 5, 0, 1, 0), (0, 2, 5, 1, 0, 33), (0, 2, 5, 2, 0, 0), (0, 2, 5, 3, 0, 0),
        ])

    def test_one_behind_another(self):
        span = (10, 20)
        self.assertEqual(self.after(span, (0, 0, 5), (0, 5, 0)), (10, 20))
        self.assertEqual(self.after(span, (12, 0, 5), (12, 5, 0)), (10, 20))
        self.assertEqual(self.after(span, (12, 5, 0), (12, 0, 5)), (10, 20))
        self.assertEqual(self.after(span, (10, 5, 0), (10, 0, 5)), (15, 20))
        self.assertEqual(self.after(span, (15, 5, 0), (15, 0, 5)), (10, 15))
        self.assertEqual(self.after(span, (20, 0, 5), (19, 1, 0)), (10, 19))
        self.assertEqual(self.after(span, (10, 9, 0), (10, 0, 3), (13, 1, 0)), LOST)
        self.assertEqual(self.after(span, (15, 5, 0), (10, 5, 0), (10, 0, 10)), LOST)

    def test_each_is_answered_as_if_told_alone(self):
        # The same desk, once come to by edits, once laid out as they left it.
        edits = [(3, 4, 1), (0, 0, 2), (6, 1, 0), (5, 3, 9), (14, 0, 0)]
        for count in range(1, len(edits)):
            ahead = [begin(20), pages(0, 4, 8, 15), put(1, 9), put(6, 18, 1, 0, 4)]
            ahead += [edit(*one) for one in edits[:count]]
            told = answers_to(*ahead, length(), *[start(page) for page in range(4)], get(0), get(1))[len(ahead):]
            laid_out = [begin(told[0][1]), pages(*[answer[1] for answer in told[1:5]])]
            laid_out += [put(*answer[1:]) for answer in told[5:]]
            asked = [edit(*edits[count]), length(), *[start(page) for page in range(4)]]
            asked += [get(0), get(1), place(0), place(1)]
            with self.subTest(count=count):
                self.assertEqual(answers_to(*ahead, *asked)[-len(asked):], answers_to(*laid_out, *asked)[-len(asked):])


class LostTest(unittest.TestCase):
    def test_several_by_one_edit_their_numbers_rising(self):
        spans = [put(9, 10), put(0, 30), put(3, 5), put(4, 8), put(8, 9), put(2, 6), put(4, 6)]
        told = answers_to(begin(30), *spans, edit(3, 7, 2), *[get(number) for number in range(7)])[8:]
        self.assertEqual(told, [
            (0, 0, 2, 3, 4, 6), (-3,), (0, 0, 25, 0, 0, 0), (-3,), (-3,), (-3,), (0, 2, 3, 0, 0, 0), (-3,),
        ])

    def test_rising_whatever_order_they_were_put_in(self):
        told = answers_to(
            begin(30), put(0, 1), put(0, 2), put(0, 3), drop(0), drop(1), put(0, 4), put(0, 5), edit(0, 6, 0),
        )
        self.assertEqual(told[-1], (0, 0, 1, 2))

    def test_their_numbers_are_free_for_the_next_put(self):
        spans = [put(0, 3), put(10, 12), put(11, 13), put(20, 22), put(12, 14)]
        told = answers_to(begin(30), *spans, edit(10, 4, 4), *[put(1, 2)] * 4, get(1), get(3))[6:]
        self.assertEqual(told, [
            (0, 1, 2, 4), (0, 1), (0, 2), (0, 4), (0, 5), (0, 1, 2, 0, 0, 0), (0, 20, 22, 0, 0, 0),
        ])

    def test_a_lost_one_is_lost_once(self):
        told = answers_to(begin(30), put(3, 5), edit(3, 2, 2), edit(3, 2, 2), drop(0), place(0))
        self.assertEqual(told[2:], [(0, 0), (0,), (-3,), (-3,)])

    def test_none(self):
        self.assertEqual(answers_to(begin(30), edit(0, 30, 30), put(0, 4), edit(4, 26, 0))[1:], [(0,), (0, 0), (0,)])

    def test_a_dropped_one_is_not_lost(self):
        self.assertEqual(last_answer(begin(30), put(3, 5), put(3, 5), drop(0), edit(0, 30, 0)), (0, 1))

    def test_65536_of_them(self):
        # No list of calls is long enough for these, so the desk itself is asked.
        desk = full_desk()
        self.assertEqual(desk.edit(0, 1, 1), [0] + list(range(65536)))
        self.assertEqual(desk.get(65535), [-3])


class LengthTest(unittest.TestCase):
    def lengths(self, size, *one):
        return answers_to(begin(size), edit(*one), length())[1:]

    def test_the_length_behind_an_edit(self):
        self.assertEqual(self.lengths(10, 3, 4, 6), [(0,), (0, 12)])
        self.assertEqual(self.lengths(10, 3, 4, 0), [(0,), (0, 6)])
        self.assertEqual(self.lengths(10, 3, 0, 4), [(0,), (0, 14)])
        self.assertEqual(self.lengths(10, 3, 0, 0), [(0,), (0, 10)])
        self.assertEqual(self.lengths(10, 0, 10, 0), [(0,), (0, 0)])
        self.assertEqual(self.lengths(0, 0, 0, 7), [(0,), (0, 7)])
        self.assertEqual(self.lengths(0, 0, 0, 0), [(0,), (0, 0)])

    def test_at_and_cut_as_far_as_the_length(self):
        for one in ((10, 0, 1), (9, 1, 1), (0, 10, 1), (10, 0, 0)):
            with self.subTest(edit=one):
                self.assertEqual(self.lengths(10, *one)[0], (0,))
        for one in ((11, 0, 0), (11, 0, 1), (10, 1, 1), (9, 2, 2), (0, 11, 1), (HIGHEST, 0, 0), (0, HIGHEST, 0),
                    (HIGHEST, HIGHEST, 0), (1, HIGHEST, 1)):
            with self.subTest(edit=one):
                self.assertEqual(self.lengths(10, *one), [(-1,), (0, 10)])
        self.assertEqual(self.lengths(0, 0, 1, 0), [(-1,), (0, 0)])
        self.assertEqual(self.lengths(0, 1, 0, 0), [(-1,), (0, 0)])
        self.assertEqual(self.lengths(LONGEST, LONGEST, 0, 0), [(0,), (0, LONGEST)])
        self.assertEqual(self.lengths(LONGEST, LONGEST, 1, 0), [(-1,), (0, LONGEST)])

    def test_the_longest_that_may_come(self):
        self.assertEqual(self.lengths(10, 5, 0, LONGEST - 10), [(0,), (0, LONGEST)])
        self.assertEqual(self.lengths(10, 5, 0, LONGEST - 9), [(-2,), (0, 10)])
        self.assertEqual(self.lengths(10, 5, 3, LONGEST - 7), [(0,), (0, LONGEST)])
        self.assertEqual(self.lengths(10, 5, 3, LONGEST - 6), [(-2,), (0, 10)])
        self.assertEqual(self.lengths(0, 0, 0, LONGEST), [(0,), (0, LONGEST)])
        self.assertEqual(self.lengths(0, 0, 0, LONGEST + 1), [(-2,), (0, 0)])
        self.assertEqual(self.lengths(10, 0, 10, LONGEST), [(0,), (0, LONGEST)])
        self.assertEqual(self.lengths(10, 0, 10, HIGHEST), [(-2,), (0, 10)])
        self.assertEqual(self.lengths(LONGEST, 0, 0, 1), [(-2,), (0, LONGEST)])
        self.assertEqual(self.lengths(LONGEST, 0, 1, 1), [(0,), (0, LONGEST)])
        self.assertEqual(self.lengths(LONGEST, 0, 1, 2), [(-2,), (0, LONGEST)])
        self.assertEqual(self.lengths(LONGEST, 0, LONGEST, LONGEST), [(0,), (0, LONGEST)])

    def test_of_both_refusals_the_first(self):
        self.assertEqual(self.lengths(10, 11, 0, HIGHEST), [(-1,), (0, 10)])
        self.assertEqual(self.lengths(10, 10, 1, LONGEST), [(-1,), (0, 10)])
        self.assertEqual(self.lengths(LONGEST, LONGEST, 1, 2), [(-1,), (0, LONGEST)])

    def test_spans_at_the_longest(self):
        told = answers_to(begin(10), put(0, 10), put(5, 10), edit(5, 0, LONGEST - 10), get(0), get(1))
        self.assertEqual(told[3:], [(0,), (0, 0, LONGEST, 0, 0, 0), (0, LONGEST - 5, LONGEST, 0, 0, 0)])

    def test_the_new_length_is_what_put_and_pages_go_by(self):
        told = answers_to(begin(10), edit(10, 0, 2), put(11, 12), put(12, 13), pages(0, 12), pages(0, 13))
        self.assertEqual(told[2:], [(0, 0), (-1,), (0, 0), (-1,)])
        told = answers_to(begin(10), edit(8, 2, 0), put(7, 8), put(8, 9), pages(0, 8), pages(0, 9))
        self.assertEqual(told[2:], [(0, 0), (-1,), (0, 0), (-1,)])


class StartsMovedTest(unittest.TestCase):
    def starts(self, size, row, *edits):
        asked = [start(page) for page in range(len(row))]
        calls = [begin(size), pages(*row), *[edit(*one) for one in edits]]
        told = answers_to(*calls, *asked, start(len(row)))[len(calls):]
        self.assertEqual(told[-1], (-1,))
        return tuple(answer[1] for answer in told[:-1])

    def test_they_move_as_a_from(self):
        row = (0, 9, 10, 12, 13, 14, 15, 30)
        self.assertEqual(self.starts(30, row, (10, 4, 7)), (0, 9, 17, 17, 17, 17, 18, 33))
        self.assertEqual(self.starts(30, row, (10, 4, 0)), (0, 9, 10, 10, 10, 10, 11, 26))
        self.assertEqual(self.starts(30, row, (10, 0, 3)), (0, 9, 13, 15, 16, 17, 18, 33))
        self.assertEqual(self.starts(30, row, (10, 0, 0)), row)
        self.assertEqual(self.starts(30, row, (10, 4, 4)), (0, 9, 14, 14, 14, 14, 15, 30))

    def test_the_first_stays_0(self):
        self.assertEqual(self.starts(10, (0, 4), (0, 0, 5)), (0, 9))
        self.assertEqual(self.starts(10, (0, 4), (0, 2, 5)), (0, 7))
        self.assertEqual(self.starts(10, (0, 4), (0, 10, 5)), (0, 5))
        self.assertEqual(self.starts(10, (0,), (0, 0, 5)), (0,))
        self.assertEqual(self.starts(0, (0,), (0, 0, 5)), (0,))

    def test_others_that_are_0_do_not_stay(self):
        self.assertEqual(self.starts(10, (0, 0, 0, 4), (0, 0, 5)), (0, 5, 5, 9))
        self.assertEqual(self.starts(10, (0, 0, 0, 4), (0, 2, 5)), (0, 5, 5, 7))
        self.assertEqual(self.starts(0, (0, 0), (0, 0, 5)), (0, 5))

    def test_others_that_are_0_stay_where_nothing_is_put_ahead_of_them(self):
        self.assertEqual(self.starts(10, (0, 0, 4), (0, 2, 0)), (0, 0, 2))
        self.assertEqual(self.starts(10, (0, 0, 4), (1, 0, 5)), (0, 0, 9))

    def test_pages_become_empty(self):
        self.assertEqual(self.starts(20, (0, 5, 10, 15), (5, 5, 0)), (0, 5, 5, 10))
        self.assertEqual(self.starts(20, (0, 5, 10, 15), (5, 5, 1)), (0, 6, 6, 11))
        self.assertEqual(self.starts(20, (0, 5, 10, 15), (4, 12, 0)), (0, 4, 4, 4))
        self.assertEqual(self.starts(20, (0, 5, 10, 15), (0, 20, 0)), (0, 0, 0, 0))
        self.assertEqual(self.starts(20, (0, 5, 10, 15), (0, 20, 3)), (0, 3, 3, 3))

    def test_starts_at_the_length(self):
        self.assertEqual(self.starts(10, (0, 10), (10, 0, 5)), (0, 15))
        self.assertEqual(self.starts(10, (0, 9, 10, 10), (9, 1, 0)), (0, 9, 9, 9))
        self.assertEqual(self.starts(10, (0, 9, 10), (9, 1, 4)), (0, 13, 13))
        self.assertEqual(self.starts(10, (0, 9, 10), (8, 0, 4)), (0, 13, 14))
        self.assertEqual(self.starts(10, (0, 5, 10), (4, 6, 0)), (0, 4, 4))
        self.assertEqual(self.starts(10, (0, 10), (0, 0, LONGEST - 10)), (0, LONGEST))

    def test_one_behind_another(self):
        self.assertEqual(self.starts(20, (0, 5, 10), (5, 5, 0), (5, 0, 5)), (0, 10, 10))
        self.assertEqual(self.starts(20, (0, 5, 10), (5, 0, 5), (5, 5, 0)), (0, 5, 10))
        self.assertEqual(self.starts(20, (0, 0, 10), (0, 0, 4), (2, 0, 1), (0, 1, 0)), (0, 4, 14))

    def test_new_pages_in_place_of_those_moved(self):
        told = answers_to(begin(10), pages(0, 4), edit(0, 0, 5), pages(0, 4), start(1), edit(0, 0, 1), start(1))
        self.assertEqual(told[3:], [(0, 0), (0, 4), (0,), (0, 5)])

    def test_as_many_as_may_be_handed_in(self):
        row = list(range(29000))
        told = answers_to(
            begin(29000), pages(*row), edit(100, 50, 7), start(99), start(100), start(149), start(150), start(28999),
        )
        self.assertEqual(told[2:], [(0,), (0, 99), (0, 107), (0, 107), (0, 107), (0, 28956)])
