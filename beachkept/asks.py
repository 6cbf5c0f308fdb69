"""The calls that only ask of a beach, and leave all as it is."""

from beachkept.refusals import NONE_THERE, UNWATCHED
from beachkept.watch import excesses_now, fewest_towers, must_now, room_in, swimmers_in_all


def be_safe(beach):
    all_watched = 1 if must_now(beach) == 0 else 0
    return [all_watched, swimmers_in_all(beach)]


def be_must(beach):
    excesses = excesses_now(beach)
    must = max(excesses)
    # If nobody must come out, the first set with an excess of 0 is the one of no zones, which is told as 0.
    return [must, excesses.index(must)]


def be_room(beach, k):
    if k >= len(beach.zones):
        return [NONE_THERE]
    return [room_in(beach, k)]


def be_few(beach):
    fewest = fewest_towers(beach)
    if fewest is None:
        return [UNWATCHED]
    return [fewest[1], fewest[0]]
