"""The calls that only ask of a beach, and leave all as it is."""

from beachkept.bits import bits_of, has
from beachkept.refusals import NOBODY, NONE_THERE, UNWATCHED, WRONG
from beachkept.watch import excesses_now, fewest_towers, guard_is_there, minutes_away, must_now, must_without
from beachkept.watch import nearest_tower, reach_now, room_in, swimmers_in, watches


def be_safe(beach):
    all_watched = 1 if must_now(beach) == 0 else 0
    return [all_watched, swimmers_in(beach.zones)]


def be_must(beach):
    excesses = excesses_now(beach)
    must = max(excesses)
    # If nobody must come out, the first set with an excess of 0 is the one of no zones, which is told as 0.
    return [must, excesses.index(must)]


def be_room(beach, k):
    if k >= len(beach.zones):
        return [NONE_THERE]
    return [room_in(beach, k)]


def be_few(beach):
    fewest = fewest_towers(beach)
    if fewest is None:
        return [UNWATCHED]
    return [fewest[1], fewest[0]]


def be_without(beach, k):
    if k >= len(beach.towers):
        return [NONE_THERE]
    if beach.towers[k].on_duty == 0:
        return [NOBODY]
    return [must_without(beach, k)]


def be_over(beach, zones):
    if zones >= 1 << len(beach.zones):
        return [WRONG]
    named = [zone for k, zone in enumerate(beach.zones) if has(zones, k)]
    watching = [any([watches(beach, tower, zone) for zone in named]) for tower in beach.towers]
    return [watching.count(True), bits_of(watching), swimmers_in(named)]


def be_covers(beach, k):
    if k >= len(beach.towers):
        return [NONE_THERE]
    covered = [watches(beach, beach.towers[k], zone) for zone in beach.zones]
    return [covered.count(True), bits_of(covered)]


def be_nearest(beach, x):
    if x > beach.length:
        return [WRONG]
    nearest = nearest_tower(beach, x)
    if nearest is None:
        return [NOBODY]
    return [nearest[0], nearest[1]]


def be_reach(beach, k):
    if k >= len(beach.towers):
        return [NONE_THERE]
    tower = beach.towers[k]
    there = 1 if guard_is_there(beach, tower) else 0
    return [reach_now(beach, tower), there]


def be_look(beach, k):
    if k >= len(beach.zones):
        return [NONE_THERE]
    zone = beach.zones[k]
    return [zone.swimmers, zone.begin, zone.end, zone.red]


def be_see(beach, k):
    if k >= len(beach.towers):
        return [NONE_THERE]
    tower = beach.towers[k]
    return [tower.at, tower.reach, tower.on_duty, minutes_away(beach, tower)]


def be_gaps(beach):
    gaps = [not any([watches(beach, tower, zone) for tower in beach.towers]) for zone in beach.zones]
    return [gaps.count(True), bits_of(gaps)]


def be_sums(beach):
    swim = swimmers_in(beach.zones)
    # Whoever went in and swims no more came out.
    return [beach.went_in, swim, beach.went_in - swim, beach.rescues]


def be_state(beach):
    places = [len(beach.zones), len(beach.towers)]
    changes = [len(beach.earlier), len(beach.taken_back)]
    return [beach.minute] + places + [beach.rough] + changes
