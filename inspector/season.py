"""A line of calls on one object that is new, and what they answer."""

from inspector.dayscalls import DAYS_CALLS
from inspector.evencalls import EVEN_CALLS
from inspector.plancalls import PLAN_CALLS
from inspector.refusals import NOT_BEGUN
from inspector.whole import Whole
from inspector.wholecalls import WHOLE_CALLS

BEGIN = 0
UNDO = 8

# How many numbers stand behind each call's own, by the call's number.
ARGUMENTS = (
    3, 2, 0, 2, 0, 0, 0, 0, 0, 0,
    1, 0, 2, 1, 1, 1, 0, 0, 0, 3, 3, 3, 0, 0, 0, 2, 1, 1, 1, 0, 0,
    2, 0, 0, 0, 0, 0, 3, 1, 1, 1, 0, 0, 1, 1, 1, 1,
    2, 1, 2, 1, 1, 1, 0, 0, 3, 1, 0, 0, 1, 0, 2, 1, 0, 0, 0, 0,
)


def made_call(whole, number, given):
    """Make the call of this number with the numbers given; what it answers."""
    call = (WHOLE_CALLS + DAYS_CALLS + EVEN_CALLS + PLAN_CALLS)[number]
    if len(given) == 0:
        return call(whole)
    if len(given) == 1:
        return call(whole, given[0])
    if len(given) == 2:
        return call(whole, given[0], given[1])
    return call(whole, given[0], given[1], given[2])


def answer(whole, number, given):
    """What a call answers; what was before it is kept, if it's a change."""
    if number == BEGIN:
        return made_call(whole, number, given)
    if whole.season is None:
        return [NOT_BEGUN]
    if number == UNDO:
        return made_call(whole, number, given)
    before = whole.parts()
    numbers = made_call(whole, number, given)
    whole.keep_if_changed(before)
    return numbers


def answers(calls):
    """For each call of the line, in order, how many numbers are answered, then these."""
    whole = Whole()
    all_numbers = []
    place = 0
    while place < len(calls):
        number = calls[place]
        behind = place + 1 + ARGUMENTS[number]
        numbers = answer(whole, number, calls[place + 1:behind])
        all_numbers.append(len(numbers))
        all_numbers.extend(numbers)
        place = behind
    return all_numbers
