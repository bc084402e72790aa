"""Calls in any order, told against a plain second telling of the document's words."""

import random
import unittest

from helper import (
    HIGHEST, LONGEST, answers_to, begin, drop, edit, get, holds, length, on, pages, place, put, start,
)


class Told:
    """The words of the document over a list of slots, each a span or None."""

    def __init__(self):
        self.renew(0)

    def renew(self, size):
        self.size = size
        self.row = [0]
        self.slots = [None] * 65536

    def tell(self, call):
        numbers = call[1:]
        if call[0] == 1:
            return self.tell_begin(numbers[0])
        if call[0] == 2:
            return (0, self.size)
        if call[0] == 3:
            return self.tell_pages(numbers[1:])
        if call[0] == 4:
            return (0, self.row[numbers[0]]) if numbers[0] < len(self.row) else (-1,)
        if call[0] == 5:
            return self.tell_put(*numbers)
        if call[0] == 8:
            return self.tell_edit(*numbers)
        if call[0] == 10:
            return self.tell_holds(numbers[0])
        if call[0] == 11:
            return self.tell_on(numbers[0])
        return self.tell_of_span(call[0], numbers[0])

    def tell_begin(self, size):
        if size > 2147483647:
            return (-1,)
        self.renew(size)
        return (0, 0)

    def tell_pages(self, row):
        if not 1 <= len(row) <= 65536 or row[0] != 0 or row != sorted(row) or max(row) > self.size:
            return (-1,)
        self.row = row
        return (0, 0)

    def tell_put(self, source, to, kind, main, note):
        notes = range(1, 16777216) if kind == 1 else (0,)
        mains = (0, 1) if kind == 0 else (0,)
        if not source < to <= self.size or kind not in (0, 1, 2, 3) or main not in mains or note not in notes:
            return (-1,)
        number = self.slots.index(None)
        self.slots[number] = (source, to, kind, main, note)
        return (0, number)

    def tell_of_span(self, asked, number):
        if number >= 65536 or self.slots[number] is None:
            return (-3,)
        if asked == 7:
            return (0, *self.slots[number])
        if asked == 9:
            return (0, *self.pages_of(number), *self.slots[number][2:])
        self.slots[number] = None
        return (0, 0)

    def tell_edit(self, at, cut, new):
        if at + cut > self.size:
            return (-1,)
        if self.size - cut + new > 2147483647:
            return (-2,)
        self.size += new - cut
        self.row = [0] + [self.from_behind(begins, at, cut, new) for begins in self.row[1:]]
        lost = []
        for number in self.numbers():
            source, to, *others = self.slots[number]
            source = self.from_behind(source, at, cut, new)
            to = to if to <= at else to - cut + new if to > at + cut else at
            self.slots[number] = (source, to, *others) if source < to else None
            if source >= to:
                lost.append(number)
        return (0, *lost)

    def from_behind(self, source, at, cut, new):
        return source if source < at else source - cut + new if source >= at + cut else at + new

    def tell_holds(self, spot):
        if spot >= self.size:
            return (-1,)
        return self.in_order(number for number in self.numbers() if spot in range(*self.slots[number][:2]))

    def tell_on(self, page):
        if page >= len(self.row):
            return (-1,)
        found = {number: self.pages_of(number) for number in self.numbers()}
        return self.in_order(number for number, (first, last) in found.items() if first <= page <= last)

    def numbers(self):
        # No list of calls gives a number above these.
        return [number for number in range(400) if self.slots[number] is not None]

    def pages_of(self, number):
        source, to = self.slots[number][:2]
        return [max(page for page, begins in enumerate(self.row) if begins <= spot) for spot in (source, to - 1)]

    def in_order(self, numbers):
        return (0, *sorted(numbers, key=lambda number: (self.slots[number][0], -self.slots[number][1], number)))


def some_starts(rng):
    row = [rng.randrange(13) for place in range(rng.randrange(5))]
    if rng.random() < 0.8:
        row = [0] + sorted(row)
    return row


def some_put(rng):
    kind = rng.choice((0, 0, 0, 1, 1, 2, 3, 4))
    note = rng.choice((1, 16777215, 16777216, 0)) if kind == 1 else rng.choice((0, 0, 0, 1))
    return put(rng.randrange(8), rng.randrange(14), kind, rng.choice((0, 0, 1)), note)


def some_number(rng):
    return rng.choice((0, 1, 2, 3, 4, 5, 65535, 65536, HIGHEST))


def some_edit(rng):
    if rng.random() < 0.1:
        return edit(*[rng.choice((0, 1, LONGEST - 12, LONGEST, LONGEST + 1, HIGHEST)) for number in range(3)])
    return edit(rng.randrange(12), rng.choice((0, 0, 1, 2, 3, 5)), rng.choice((0, 0, 1, 2, 3, 5)))


def some_call(rng):
    chosen = rng.randrange(40)
    if chosen == 0:
        return begin(rng.choice((0, 8, 12, 12, LONGEST, LONGEST + 1, HIGHEST)))
    if chosen == 1:
        return length()
    if chosen < 5:
        return pages(*some_starts(rng))
    if chosen < 8:
        return start(rng.choice((0, 1, 2, 3, 4, 5, HIGHEST)))
    if chosen < 18:
        return some_put(rng)
    if chosen < 20:
        return drop(some_number(rng))
    if chosen < 25:
        return get(some_number(rng))
    if chosen < 30:
        return some_edit(rng)
    if chosen < 33:
        return place(some_number(rng))
    if chosen < 37:
        return holds(rng.choice((*range(14), LONGEST - 1, LONGEST, HIGHEST)))
    return on(rng.choice((0, 1, 2, 3, 4, 5, HIGHEST)))


class AnyOrderTest(unittest.TestCase):
    def test_many_lists_of_calls(self):
        rng = random.Random(20)
        for turn in range(300):
            calls = [begin(12)] + [some_call(rng) for call in range(rng.randrange(1, 150))]
            told = Told()
            with self.subTest(turn=turn):
                self.assertEqual(answers_to(*calls), [told.tell(call) for call in calls])
