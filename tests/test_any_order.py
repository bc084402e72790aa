"""Calls in any order, told against a plain second telling of the document's words."""

import random
import unittest

from helper import HIGHEST, LONGEST, answers_to, begin, drop, length, pages, put, start


class Told:
    """The words of the document over a list of slots, each a span or None."""

    def __init__(self):
        self.renew(0)

    def renew(self, size):
        self.size = size
        self.row = [0]
        self.slots = [None] * 65536

    def tell(self, call):
        numbers = call[1:]
        if call[0] == 1:
            return self.tell_begin(numbers[0])
        if call[0] == 2:
            return (0, self.size)
        if call[0] == 3:
            return self.tell_pages(numbers[1:])
        if call[0] == 4:
            return (0, self.row[numbers[0]]) if numbers[0] < len(self.row) else (-1,)
        if call[0] == 5:
            return self.tell_put(*numbers)
        return self.tell_drop(numbers[0])

    def tell_begin(self, size):
        if size > 2147483647:
            return (-1,)
        self.renew(size)
        return (0, 0)

    def tell_pages(self, row):
        if not 1 <= len(row) <= 65536 or row[0] != 0 or row != sorted(row) or max(row) > self.size:
            return (-1,)
        self.row = row
        return (0, 0)

    def tell_put(self, source, to, kind, main, note):
        notes = range(1, 16777216) if kind == 1 else (0,)
        mains = (0, 1) if kind == 0 else (0,)
        if not source < to <= self.size or kind not in (0, 1, 2, 3) or main not in mains or note not in notes:
            return (-1,)
        number = self.slots.index(None)
        self.slots[number] = (source, to, kind, main, note)
        return (0, number)

    def tell_drop(self, number):
        if number >= 65536 or self.slots[number] is None:
            return (-3,)
        self.slots[number] = None
        return (0, 0)


def some_starts(rng):
    row = [rng.randrange(13) for place in range(rng.randrange(5))]
    if rng.random() < 0.8:
        row = [0] + sorted(row)
    return row


def some_call(rng):
    chosen = rng.randrange(20)
    if chosen == 0:
        return begin(rng.choice((0, 8, 12, 12, LONGEST, LONGEST + 1, HIGHEST)))
    if chosen == 1:
        return length()
    if chosen < 5:
        return pages(*some_starts(rng))
    if chosen < 8:
        return start(rng.choice((0, 1, 2, 3, 4, 5, HIGHEST)))
    if chosen < 14:
        kind = rng.choice((0, 0, 0, 1, 1, 2, 3, 4))
        note = rng.choice((1, 16777215, 16777216, 0)) if kind == 1 else rng.choice((0, 0, 0, 1))
        return put(rng.randrange(8), rng.randrange(14), kind, rng.choice((0, 0, 1)), note)
    return drop(rng.choice((0, 1, 2, 3, 4, 65535, 65536)))


class AnyOrderTest(unittest.TestCase):
    def test_many_lists_of_calls(self):
        rng = random.Random(20)
        for turn in range(150):
            calls = [begin(12)] + [some_call(rng) for call in range(rng.randrange(1, 120))]
            told = Told()
            with self.subTest(turn=turn):
                self.assertEqual(answers_to(*calls), [told.tell(call) for call in calls])
