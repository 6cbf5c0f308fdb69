"""The calls on one beach, laid one behind another, and their answers, laid likewise."""

from beachkept.asks import be_covers, be_few, be_gaps, be_look, be_must, be_nearest, be_over, be_reach, be_room
from beachkept.asks import be_safe, be_see, be_state, be_sums, be_without
from beachkept.changes import be_clear, be_flag, be_in, be_man, be_minutes, be_out, be_rescue, be_return, be_rough
from beachkept.changes import be_start, be_tower, be_zone
from beachkept.history import Moment, be_again, be_back, note_change
from beachkept.search import be_lane, be_passes
from beachkept.shore import Beach

# How many numbers stand behind each call's own, from call 0 on.
NUMBERS_BEHIND = (2, 2, 2, 2, 2, 2, 2, 1, 1, 2, 0, 0, 0, 1, 0, 1, 1, 1, 1, 1, 1, 1, 1, 3, 4, 0, 0, 0, 0, 0)
# The calls that can be taken back.
CHANGES = (1, 2, 3, 4, 5, 6, 7, 8, 9, 10, 22)


def answer_to_none(beach, call):
    if call == 10:
        return be_clear(beach)
    if call == 11:
        return be_safe(beach)
    if call == 12:
        return be_must(beach)
    if call == 14:
        return be_few(beach)
    if call == 25:
        return be_gaps(beach)
    if call == 26:
        return be_sums(beach)
    if call == 27:
        return be_back(beach)
    if call == 28:
        return be_again(beach)
    return be_state(beach)


def answer_to_one(beach, call, first):
    if call == 7:
        return be_rough(beach, first)
    if call == 8:
        return be_minutes(beach, first)
    if call == 13:
        return be_room(beach, first)
    if call == 15:
        return be_without(beach, first)
    if call == 16:
        return be_over(beach, first)
    if call == 17:
        return be_covers(beach, first)
    if call == 18:
        return be_nearest(beach, first)
    if call == 19:
        return be_reach(beach, first)
    if call == 20:
        return be_look(beach, first)
    if call == 21:
        return be_see(beach, first)
    return be_return(beach, first)


def answer_to_two(beach, call, first, second):
    if call == 0:
        return be_start(beach, first, second)
    if call == 1:
        return be_zone(beach, first, second)
    if call == 2:
        return be_tower(beach, first, second)
    if call == 3:
        return be_man(beach, first, second)
    if call == 4:
        return be_flag(beach, first, second)
    if call == 5:
        return be_in(beach, first, second)
    if call == 6:
        return be_out(beach, first, second)
    return be_rescue(beach, first, second)


def answer(beach, call, given):
    if len(given) == 0:
        return answer_to_none(beach, call)
    if len(given) == 1:
        return answer_to_one(beach, call, given[0])
    if len(given) == 2:
        return answer_to_two(beach, call, given[0], given[1])
    if len(given) == 3:
        return be_passes(given[0], given[1], given[2])
    return be_lane(given[0], given[1], given[2], given[3])


def answer_and_note(beach, call, given):
    """Like answer; and a change that isn't refused can be taken back then."""
    if call not in CHANGES:
        return answer(beach, call, given)
    before = Moment(beach)
    numbers = answer(beach, call, given)
    if numbers[0] >= 0:
        note_change(beach, before)
    return numbers


def answers(calls):
    """For each call how many numbers are answered, then these."""
    beach = Beach()
    told = []
    at = 0
    while at < len(calls):
        call = calls[at]
        behind = at + 1 + NUMBERS_BEHIND[call]
        numbers = answer_and_note(beach, call, calls[at + 1:behind])
        told.append(len(numbers))
        told.extend(numbers)
        at = behind
    return told
