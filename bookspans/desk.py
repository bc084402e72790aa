"""A desk: one text, the starts of its pages, and the spans that were put on it."""

MOST_CHARACTERS = 2147483647
MOST_PAGES = 65536
MOST_SPANS = 65536
MOST_NOTE = 16777215

PLAIN = 0
NOTE = 1
TABLE = 3


def answered(number):
    return [0, number]


def refused(number):
    return [-number]


def are_starts(starts, length):
    if len(starts) < 1 or len(starts) > MOST_PAGES or starts[0] != 0:
        return False
    before = 0
    for place in starts:
        if place < before or place > length:
            return False
        before = place
    return True


def least_free(spans):
    number = 0
    while number in spans:
        number += 1
    return number


class Span:
    """From a place to a place of a text, with what else is told of it."""

    def __init__(self, source, to, kind, main, note):
        self.source = source
        self.to = to
        self.kind = kind
        self.main = main
        self.note = note

    def fits(self, length):
        return self.source < self.to and self.to <= length

    def is_sound(self):
        return self.kind <= TABLE and self.has_sound_main() and self.has_sound_note()

    def has_sound_main(self):
        return self.main == 0 or (self.main == 1 and self.kind == PLAIN)

    def has_sound_note(self):
        if self.kind == NOTE:
            return self.note >= 1 and self.note <= MOST_NOTE
        return self.note == 0


class Desk:
    """Each call answers 0 and a number, or a refusal's number below 0, alone."""

    def __init__(self):
        self.length = 0
        self.starts = [0]
        self.spans = {}

    def begin(self, length):
        if length > MOST_CHARACTERS:
            return refused(1)
        self.length = length
        self.starts = [0]
        self.spans = {}
        return answered(0)

    def tell_length(self):
        return answered(self.length)

    def pages(self, starts):
        if not are_starts(starts, self.length):
            return refused(1)
        # A copy, for the row that is handed in is not the desk's to change.
        self.starts = list(starts)
        return answered(0)

    def start(self, page):
        if page >= len(self.starts):
            return refused(1)
        return answered(self.starts[page])

    def put(self, span):
        if not (span.fits(self.length) and span.is_sound()):
            return refused(1)
        if len(self.spans) >= MOST_SPANS:
            return refused(2)
        number = least_free(self.spans)
        self.spans[number] = span
        return answered(number)

    def drop(self, number):
        if number not in self.spans:
            return refused(3)
        self.spans.pop(number)
        return answered(0)
