"""Builds lists of calls and takes answers apart, so that tests read as calls do."""

from bookspans.desk import Desk, Span
from bookspans.spans import answers

HIGHEST = 4294967295
LONGEST = 2147483647


def begin(length):
    return [1, length]


def length():
    return [2]


def pages(*starts):
    return [3, len(starts), *starts]


def start(page):
    return [4, page]


def put(source, to, kind=0, main=0, note=0):
    return [5, source, to, kind, main, note]


def drop(number):
    return [6, number]


def get(number):
    return [7, number]


def edit(at, cut, new):
    return [8, at, cut, new]


def place(number):
    return [9, number]


def holds(spot):
    return [10, spot]


def on(page):
    return [11, page]


def answers_to(*calls):
    """One tuple a call: what answers() tells of it, without how many numbers it is."""
    told = answers([number for call in calls for number in call])
    split = []
    at = 0
    while at < len(told):
        count = told[at]
        if count < 1:
            raise AssertionError(f"a call answers nothing: {told!r}")
        split.append(tuple(told[at + 1:at + 1 + count]))
        at += 1 + count
    if at != len(told) or len(split) != len(calls):
        raise AssertionError(f"counts do not fit the answers: {told!r}")
    return split


def last_answer(*calls):
    return answers_to(*calls)[-1]


def full_desk():
    """A desk with every number given: no list of calls is long enough to come there."""
    desk = Desk()
    desk.begin(10)
    for number in range(65536):
        desk.spans[number] = Span(0, 1, 0, 0, 0)
    return desk
