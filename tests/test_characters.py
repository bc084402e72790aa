"""The promises told by real characters: a text whose characters are each another, cut and put in one by one."""

import random
import unittest

from helper import LONGEST, answers_to, begin, edit, get, holds, length, on, pages, place, put, start

END = object()


class Text:
    """Spans keep the characters that they hold; a page but the first keeps the character that it begins with."""

    def __init__(self, size):
        self.row = [object() for character in range(size)]
        self.spans = {}
        self.firsts = []

    def put(self, source, to):
        number = min(set(range(len(self.spans) + 1)) - set(self.spans))
        self.spans[number] = self.row[source:to]
        return number

    def pages(self, starts):
        self.firsts = [(self.row + [END])[begins] for begins in starts[1:]]

    def edit(self, at, cut, new):
        """Gives back the spans of which no character is left."""
        behind = (self.row + [END])[at + cut]
        gone = set(self.row[at:at + cut])
        self.row[at:at + cut] = [object() for character in range(new)]
        self.firsts = [behind if first in gone else first for first in self.firsts]
        lost = []
        for number, held in sorted(self.spans.items()):
            left = [character for character in held if character not in gone]
            if left:
                # What was put in between two that are left is held from now on.
                self.spans[number] = self.row[self.row.index(left[0]):self.row.index(left[-1]) + 1]
            else:
                lost.append(number)
                self.spans.pop(number)
        return lost

    def starts(self):
        return [0] + [(self.row + [END]).index(first) for first in self.firsts]

    def bounds(self, number):
        held = self.spans[number]
        source = self.row.index(held[0])
        return source, source + len(held)

    def page_of(self, character):
        spot = self.row.index(character)
        return max(page for page, begins in enumerate(self.starts()) if begins <= spot)

    def pages_of(self, number):
        found = [self.page_of(character) for character in self.spans[number]]
        return min(found), max(found)

    def told(self, found):
        ranked = [(self.bounds(number)[0], -len(self.spans[number]), number) for number in found]
        return (0, *[number for source, less, number in sorted(ranked)])

    def holding(self, spot):
        return self.told([number for number, held in self.spans.items() if self.row[spot] in held])

    def on_page(self, page):
        found = {number: self.pages_of(number) for number in self.spans}
        return self.told([number for number, (first, last) in found.items() if first <= page <= last])

    def asked(self, numbers):
        """Everything that can be asked, each with its answer."""
        asked = [(length(), (0, len(self.row))), (holds(len(self.row)), (-1,))]
        asked += [(start(page), (0, begins)) for page, begins in enumerate(self.starts())]
        asked += [(on(page), self.on_page(page)) for page in range(len(self.firsts) + 1)]
        asked += [(holds(spot), self.holding(spot)) for spot in range(len(self.row))]
        for number in range(numbers):
            if number in self.spans:
                asked.append((get(number), (0, *self.bounds(number), 0, 0, 0)))
                asked.append((place(number), (0, *self.pages_of(number), 0, 0, 0)))
            else:
                asked += [(get(number), (-3,)), (place(number), (-3,))]
        return asked


def every_edit(size):
    return [(at, cut, new) for at in range(size + 1) for cut in range(size - at + 1) for new in range(3)]


class CharactersTest(unittest.TestCase):
    def assert_told(self, size, starts, spans, edits):
        text = Text(size)
        calls = [(begin(size), (0, 0)), (pages(*starts), (0, 0))]
        text.pages(starts)
        calls += [(put(*span), (0, text.put(*span))) for span in spans]
        calls += [(edit(*one), (0, *text.edit(*one))) for one in edits]
        calls += text.asked(len(spans) + 1)
        self.assertLessEqual(len(calls), 400)
        self.assertEqual(answers_to(*[call for call, told in calls]), [told for call, told in calls])

    def test_every_edit_of_every_span_of_a_small_text(self):
        spans = [(source, to) for source in range(5) for to in range(source + 1, 6)]
        for starts in ((0,), (0, 0, 1, 2, 3, 4, 5), (0, 2, 2, 4), (0, 1, 1, 5, 5)):
            for one in every_edit(5):
                with self.subTest(starts=starts, edit=one):
                    self.assert_told(5, starts, spans, [one])

    def test_every_two_edits_of_a_smaller_text(self):
        spans = [(source, to) for source in range(3) for to in range(source + 1, 4)]
        for first in every_edit(3):
            size = 3 - first[1] + first[2]
            for second in every_edit(size):
                with self.subTest(edits=(first, second)):
                    self.assert_told(3, (0, 1, 1, 2, 3), spans, [first, second])

    def test_many_edits_one_behind_another(self):
        rng = random.Random(5)
        for turn in range(120):
            size = left = rng.randrange(1, 30)
            starts = [0] + sorted(rng.randrange(size + 1) for page in range(rng.randrange(8)))
            spans = [sorted(rng.sample(range(size + 1), 2)) for span in range(rng.randrange(12))]
            edits = []
            for one in range(rng.randrange(1, 12)):
                at = rng.randrange(left + 1)
                cut = rng.randrange(min(left - at, 6) + 1)
                new = rng.randrange(7)
                edits.append((at, cut, new))
                left += new - cut
            with self.subTest(turn=turn):
                self.assert_told(size, starts, spans, edits)


class FarPlacesTest(unittest.TestCase):
    def test_the_same_far_down_a_long_text(self):
        # An edit is told by how places stand to one another, so all may stand further down.
        down = LONGEST - 40
        spans = [(source, to) for source in range(4) for to in range(source + 1, 5)]
        for at, cut, new in every_edit(4):
            near = [begin(4), *[put(*span) for span in spans], edit(at, cut, new)]
            far = [begin(down + 4), *[put(source + down, to + down) for source, to in spans], edit(at + down, cut, new)]
            asked = [get(number) for number in range(len(spans))]
            moved = [
                answer if answer == (-3,) else (0, answer[1] + down, answer[2] + down, *answer[3:])
                for answer in answers_to(*near, *asked)[len(near):]
            ]
            with self.subTest(edit=(at, cut, new)):
                self.assertEqual(answers_to(*far, *asked)[len(far):], moved)
