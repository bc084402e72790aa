"""What is refused changes nothing, and of several refusals the first told is answered."""

import unittest

from bookspans.desk import Desk, Span
from helper import (
    HIGHEST, LONGEST, answers_to, begin, drop, edit, full_desk, get, holds, length, on, pages, place, put, start,
)

# 1 is dropped, 4 is lost.
LAID_OUT = [
    begin(12), pages(0, 4, 4, 9), put(0, 5), put(3, 9, 1, 0, 7), put(2, 4, 0, 1), put(11, 12, 3), put(7, 8), put(4, 10),
    edit(6, 3, 3), drop(1),
]
ALL_ASKED = [
    length(),
    *[start(page) for page in range(6)],
    *[get(number) for number in range(7)],
    *[place(number) for number in range(7)],
    *[holds(spot) for spot in range(13)],
    *[on(page) for page in range(5)],
    edit(2, 1, 2), get(0), start(1), length(), edit(2, 2, 1),
    put(0, 12), put(0, 13), put(5, 6),
    *[drop(number) for number in range(7)],
]
REFUSED = [
    (begin(LONGEST + 1), -1),
    (begin(HIGHEST), -1),
    (pages(), -1),
    (pages(1), -1),
    (pages(0, 5, 4), -1),
    (pages(0, 13), -1),
    (pages(0, 1, 2, 3, 4, 5, 13), -1),
    (start(4), -1),
    (start(HIGHEST), -1),
    (put(5, 5), -1),
    (put(6, 5), -1),
    (put(0, 13), -1),
    (put(0, 1, 4), -1),
    (put(0, 1, 1, 1, 1), -1),
    (put(0, 1, 2, 1, 0), -1),
    (put(0, 1, 3, 1, 0), -1),
    (put(0, 1, 1, 0, 0), -1),
    (put(0, 1, 1, 0, 16777216), -1),
    (put(0, 1, 0, 0, 1), -1),
    (put(0, 1, 0, 1, 1), -1),
    (put(0, 1, 2, 0, 1), -1),
    (put(0, 1, 3, 0, 1), -1),
    (drop(1), -3),
    (drop(4), -3),
    (drop(6), -3),
    (drop(HIGHEST), -3),
    (get(1), -3),
    (get(4), -3),
    (get(6), -3),
    (get(HIGHEST), -3),
    (edit(12, 1, 0), -1),
    (edit(13, 0, 0), -1),
    (edit(0, 13, 13), -1),
    (edit(HIGHEST, HIGHEST, HIGHEST), -1),
    (edit(0, 0, LONGEST - 11), -2),
    (edit(0, 12, LONGEST + 1), -2),
    (edit(4, 5, HIGHEST), -2),
    (edit(12, 1, LONGEST), -1),
    (place(1), -3),
    (place(4), -3),
    (place(6), -3),
    (place(HIGHEST), -3),
    (holds(12), -1),
    (holds(HIGHEST), -1),
    (on(4), -1),
    (on(HIGHEST), -1),
]


def state(desk):
    spans = {n: (s.source, s.to, s.kind, s.main, s.note) for n, s in desk.spans.items()}
    return desk.length, list(desk.starts), spans


class NothingChangesTest(unittest.TestCase):
    def assert_same_behind(self, ahead, call, refusal):
        unchanged = answers_to(*ahead, *ALL_ASKED)[len(ahead):]
        told = answers_to(*ahead, call, *ALL_ASKED)[len(ahead):]
        self.assertEqual(told[0], (refusal,))
        self.assertEqual(told[1:], unchanged)

    def test_on_a_desk_in_use(self):
        for call, refusal in REFUSED:
            with self.subTest(call=call):
                self.assert_same_behind(LAID_OUT, call, refusal)

    def test_on_a_new_desk(self):
        for call in (
            begin(LONGEST + 1), pages(), pages(0, 1), start(1), put(0, 1), put(0, 0), edit(0, 1, 0), edit(1, 0, 0),
            holds(0), on(1),
        ):
            with self.subTest(call=call):
                self.assert_same_behind([], call, -1)
        for call in (drop(0), get(0), place(0)):
            with self.subTest(call=call):
                self.assert_same_behind([], call, -3)
        self.assert_same_behind([], edit(0, 0, LONGEST + 1), -2)

    def test_all_of_them_one_behind_another(self):
        unchanged = answers_to(*LAID_OUT, *ALL_ASKED)[len(LAID_OUT):]
        told = answers_to(*LAID_OUT, *[call for call, refusal in REFUSED], *ALL_ASKED)[len(LAID_OUT):]
        self.assertEqual(told[:len(REFUSED)], [(refusal,) for call, refusal in REFUSED])
        self.assertEqual(told[len(REFUSED):], unchanged)

    def test_what_the_desk_keeps(self):
        desk = Desk()
        desk.begin(12)
        desk.pages([0, 4, 4, 9])
        desk.put(Span(0, 5, 0, 1, 0))
        desk.put(Span(3, 9, 1, 0, 7))
        before = state(desk)
        self.assertEqual(desk.begin(LONGEST + 1), [-1])
        self.assertEqual(desk.pages([0, 3, 2]), [-1])
        self.assertEqual(desk.start(4), [-1])
        self.assertEqual(desk.put(Span(0, 13, 0, 0, 0)), [-1])
        self.assertEqual(desk.drop(2), [-3])
        self.assertEqual(desk.get(2), [-3])
        self.assertEqual(desk.edit(12, 1, 0), [-1])
        self.assertEqual(desk.edit(0, 0, LONGEST - 11), [-2])
        self.assertEqual(desk.place(2), [-3])
        self.assertEqual(desk.holds(12), [-1])
        self.assertEqual(desk.on(4), [-1])
        self.assertEqual(state(desk), before)

    def test_asking_changes_nothing_either(self):
        asked = [length(), start(1), get(0), place(0), holds(4), on(2)]
        told = answers_to(*LAID_OUT, *asked, *ALL_ASKED)[len(LAID_OUT) + len(asked):]
        self.assertEqual(told, answers_to(*LAID_OUT, *ALL_ASKED)[len(LAID_OUT):])


class SeveralHoldTest(unittest.TestCase):
    def test_pages_with_several_faults(self):
        told = answers_to(begin(5), pages(1, 0), pages(6, 7), pages(0, 9, 3), pages(9, 8, 7))
        self.assertEqual(told[1:], [(-1,)] * 4)

    def test_put_with_several_faults(self):
        told = answers_to(begin(5), put(9, 9, 9, 1, 9), put(6, 6, 1, 1, 0), put(HIGHEST, 0, HIGHEST, 1, HIGHEST))
        self.assertEqual(told[1:], [(-1,)] * 3)

    def test_edit_with_both(self):
        told = answers_to(begin(5), edit(5, 1, LONGEST), edit(6, 0, LONGEST), edit(HIGHEST, HIGHEST, HIGHEST), length())
        self.assertEqual(told[1:], [(-1,), (-1,), (-1,), (0, 5)])

    def test_no_span_on_a_full_desk(self):
        desk = full_desk()
        for wrong in (Span(1, 1, 0, 0, 0), Span(0, 11, 0, 0, 0), Span(0, 1, 1, 0, 0), Span(0, 1, 2, 1, 0)):
            self.assertEqual(desk.put(wrong), [-1])
        self.assertEqual(desk.put(Span(0, 1, 0, 0, 0)), [-2])
        self.assertEqual(len(desk.spans), 65536)
