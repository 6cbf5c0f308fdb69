"""The calls on one beach, laid one behind another, and their answers, laid likewise."""

from beachkept.asks import be_few, be_must, be_room, be_safe
from beachkept.changes import be_clear, be_flag, be_in, be_man, be_minutes, be_out, be_rescue, be_rough
from beachkept.changes import be_start, be_tower, be_zone
from beachkept.shore import Beach

# How many numbers stand behind each call's own, from call 0 on.
NUMBERS_BEHIND = (2, 2, 2, 2, 2, 2, 2, 1, 1, 2, 0, 0, 0, 1, 0)


def answer_to_none(beach, call):
    if call == 10:
        return be_clear(beach)
    if call == 11:
        return be_safe(beach)
    if call == 12:
        return be_must(beach)
    return be_few(beach)


def answer_to_one(beach, call, first):
    if call == 7:
        return be_rough(beach, first)
    if call == 8:
        return be_minutes(beach, first)
    return be_room(beach, first)


def answer_to_two(beach, call, first, second):
    if call == 0:
        return be_start(beach, first, second)
    if call == 1:
        return be_zone(beach, first, second)
    if call == 2:
        return be_tower(beach, first, second)
    if call == 3:
        return be_man(beach, first, second)
    if call == 4:
        return be_flag(beach, first, second)
    if call == 5:
        return be_in(beach, first, second)
    if call == 6:
        return be_out(beach, first, second)
    return be_rescue(beach, first, second)


def answer(beach, call, given):
    if len(given) == 0:
        return answer_to_none(beach, call)
    if len(given) == 1:
        return answer_to_one(beach, call, given[0])
    return answer_to_two(beach, call, given[0], given[1])


def answers(calls):
    """For each call how many numbers are answered, then these."""
    beach = Beach()
    told = []
    at = 0
    while at < len(calls):
        call = calls[at]
        behind = at + 1 + NUMBERS_BEHIND[call]
        numbers = answer(beach, call, calls[at + 1:behind])
        told.append(len(numbers))
        told.extend(numbers)
        at = behind
    return told
