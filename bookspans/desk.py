"""A desk: one text, the starts of its pages, and the spans that were put on it."""

MOST_CHARACTERS = 2147483647
MOST_PAGES = 65536
MOST_SPANS = 65536
MOST_NOTE = 16777215

PLAIN = 0
NOTE = 1
TABLE = 3


def answered(numbers):
    return [0] + numbers


def refused(number):
    return [-number]


def are_starts(starts, length):
    if len(starts) < 1 or len(starts) > MOST_PAGES or starts[0] != 0:
        return False
    before = 0
    for place in starts:
        if place < before or place > length:
            return False
        before = place
    return True


def page_of(starts, place):
    """The last page whose start is at most the place."""
    # The first start is 0, so it is at most any place; starts don't fall, so halving finds the last such one.
    page = 0
    above = len(starts)
    while above - page > 1:
        middle = (page + above) // 2
        if starts[middle] <= place:
            page = middle
        else:
            above = middle
    return page


def source_after(source, at, cut, put):
    if source < at:
        return source
    if source >= at + cut:
        return source - cut + put
    return at + put


def to_after(to, at, cut, put):
    if to <= at:
        return to
    if to > at + cut:
        return to - cut + put
    return at


def starts_after(starts, at, cut, put):
    # The first page begins at 0 whatever is put in ahead of what stood there.
    return [0] + [source_after(place, at, cut, put) for place in starts[1:]]


def least_free(spans):
    number = 0
    while number in spans:
        number += 1
    return number


class Span:
    """From a place to a place of a text, with what else is told of it."""

    def __init__(self, source, to, kind, main, note):
        self.source = source
        self.to = to
        self.kind = kind
        self.main = main
        self.note = note

    def fits(self, length):
        return self.source < self.to and self.to <= length

    def is_sound(self):
        return self.kind <= TABLE and self.has_sound_main() and self.has_sound_note()

    def has_sound_main(self):
        return self.main == 0 or (self.main == 1 and self.kind == PLAIN)

    def has_sound_note(self):
        if self.kind == NOTE:
            return self.note >= 1 and self.note <= MOST_NOTE
        return self.note == 0

    def after(self, at, cut, put):
        source = source_after(self.source, at, cut, put)
        to = to_after(self.to, at, cut, put)
        return Span(source, to, self.kind, self.main, self.note)

    def is_lost(self):
        return self.source >= self.to

    def covers(self, place):
        return self.source <= place and place < self.to

    def first_page(self, starts):
        return page_of(starts, self.source)

    def last_page(self, starts):
        return page_of(starts, self.to - 1)

    def is_on(self, page, starts):
        return self.first_page(starts) <= page and page <= self.last_page(starts)


class Desk:
    """Each call answers 0 and the numbers behind it, or a refusal's number below 0, alone."""

    def __init__(self):
        self.length = 0
        self.starts = [0]
        self.spans = {}

    def begin(self, length):
        if length > MOST_CHARACTERS:
            return refused(1)
        self.length = length
        self.starts = [0]
        self.spans = {}
        return answered([0])

    def tell_length(self):
        return answered([self.length])

    def pages(self, starts):
        if not are_starts(starts, self.length):
            return refused(1)
        # A copy, for the row that is handed in is not the desk's to change.
        self.starts = list(starts)
        return answered([0])

    def start(self, page):
        if page >= len(self.starts):
            return refused(1)
        return answered([self.starts[page]])

    def put(self, span):
        if not (span.fits(self.length) and span.is_sound()):
            return refused(1)
        if len(self.spans) >= MOST_SPANS:
            return refused(2)
        number = least_free(self.spans)
        self.spans[number] = span
        return answered([number])

    def drop(self, number):
        if number not in self.spans:
            return refused(3)
        self.spans.pop(number)
        return answered([0])

    def get(self, number):
        if number not in self.spans:
            return refused(3)
        span = self.spans[number]
        return answered([span.source, span.to, span.kind, span.main, span.note])

    def edit(self, at, cut, put):
        if at + cut > self.length:
            return refused(1)
        length = self.length - cut + put
        if length > MOST_CHARACTERS:
            return refused(2)
        self.length = length
        self.starts = starts_after(self.starts, at, cut, put)
        return answered(self.move_spans(at, cut, put))

    def move_spans(self, at, cut, put):
        """Gives back the numbers of the spans that are lost, rising."""
        left = {}
        lost = []
        for number in sorted(self.spans):
            span = self.spans[number].after(at, cut, put)
            if span.is_lost():
                lost.append(number)
            else:
                left[number] = span
        self.spans = left
        return lost

    def place(self, number):
        if number not in self.spans:
            return refused(3)
        span = self.spans[number]
        first = span.first_page(self.starts)
        last = span.last_page(self.starts)
        return answered([first, last, span.kind, span.main, span.note])

    def holds(self, place):
        if place >= self.length:
            return refused(1)
        found = [number for number in self.spans if self.spans[number].covers(place)]
        return answered(self.in_order(found))

    def on(self, page):
        if page >= len(self.starts):
            return refused(1)
        found = [number for number in self.spans if self.spans[number].is_on(page, self.starts)]
        return answered(self.in_order(found))

    def in_order(self, numbers):
        return sorted(numbers, key=self.rank)

    def rank(self, number):
        span = self.spans[number]
        return (span.source, -span.to, number)
