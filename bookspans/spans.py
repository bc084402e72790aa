"""Goes through a list of calls on a new desk and tells what each one answers."""

from bookspans.desk import Desk, Span

BEGIN = 1
LENGTH = 2
PAGES = 3
START = 4
PUT = 5
DROP = 6
GET = 7
EDIT = 8
PLACE = 9
HOLDS = 10

# How many numbers stand behind each call's own; pages is not here, for it tells that itself.
NUMBERS_BEHIND = {1: 1, 2: 0, 4: 1, 5: 5, 6: 1, 7: 1, 8: 3, 9: 1, 10: 1, 11: 1}


def call_end(calls, at):
    if calls[at] == PAGES:
        return at + 2 + calls[at + 1]
    return at + 1 + NUMBERS_BEHIND[calls[at]]


def answer(desk, call, numbers):
    if call == BEGIN:
        return desk.begin(numbers[0])
    if call == LENGTH:
        return desk.tell_length()
    if call == PAGES:
        return desk.pages(numbers[1:])
    if call == START:
        return desk.start(numbers[0])
    if call == PUT:
        return desk.put(Span(numbers[0], numbers[1], numbers[2], numbers[3], numbers[4]))
    if call == DROP:
        return desk.drop(numbers[0])
    if call == GET:
        return desk.get(numbers[0])
    if call == EDIT:
        return desk.edit(numbers[0], numbers[1], numbers[2])
    if call == PLACE:
        return desk.place(numbers[0])
    if call == HOLDS:
        return desk.holds(numbers[0])
    # Only on, 11, is left: call_end knows no other number.
    return desk.on(numbers[0])


def answers(calls):
    """For each call of the list, in order: how many numbers it answers, then these."""
    desk = Desk()
    told = []
    at = 0
    while at < len(calls):
        end = call_end(calls, at)
        numbers = answer(desk, calls[at], calls[at + 1:end])
        told.append(len(numbers))
        told.extend(numbers)
        at = end
    return told
