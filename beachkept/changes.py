"""The calls that change a beach. Each looks at all refusals, in the order they are told, ahead of the change."""

from beachkept.limits import LAST_MINUTE, LONGEST_REACH, LONGEST_RESCUE, LONGEST_SHORE, MOST_EACH, MOST_EVER_IN
from beachkept.limits import MOST_MINUTES, MOST_RESCUES, MOST_TOWERS, MOST_ZONES, ROUGHEST, is_within
from beachkept.refusals import FULL, NOBODY, NONE_THERE, SO_ALREADY, TOO_FEW, TOO_LATE, UNWATCHED, WRONG
from beachkept.shore import Tower, Zone
from beachkept.watch import cleared_from, minutes_away, must_now, must_without, nearest_tower, room_in


def be_start(beach, length, each):
    if not is_within(length, 1, LONGEST_SHORE) or not is_within(each, 1, MOST_EACH):
        return [WRONG]
    beach.start_anew(length, each)
    return [0]


def be_zone(beach, begin, end):
    if end <= begin or end > beach.length:
        return [WRONG]
    if len(beach.zones) == MOST_ZONES:
        return [FULL]
    beach.zones.append(Zone(begin, end))
    return [len(beach.zones) - 1]


def be_tower(beach, at, reach):
    if at > beach.length or not is_within(reach, 1, LONGEST_REACH):
        return [WRONG]
    if len(beach.towers) == MOST_TOWERS:
        return [FULL]
    beach.towers.append(Tower(at, reach))
    return [len(beach.towers) - 1]


def be_man(beach, k, on):
    if k >= len(beach.towers):
        return [NONE_THERE]
    if on > 1:
        return [WRONG]
    if beach.towers[k].on_duty == on:
        return [SO_ALREADY]
    if on == 0 and must_without(beach, k) > must_now(beach):
        return [UNWATCHED]
    beach.towers[k].on_duty = on
    return [sum([tower.on_duty for tower in beach.towers])]


def be_flag(beach, k, red):
    if k >= len(beach.zones):
        return [NONE_THERE]
    if red > 1:
        return [WRONG]
    if beach.zones[k].red == red:
        return [SO_ALREADY]
    beach.zones[k].red = red
    return [must_now(beach)]


def be_in(beach, k, n):
    if k >= len(beach.zones):
        return [NONE_THERE]
    if n == 0:
        return [WRONG]
    if n > room_in(beach, k):
        return [UNWATCHED]
    if beach.went_in + n > MOST_EVER_IN:
        return [FULL]
    zone = beach.zones[k]
    zone.swimmers = zone.swimmers + n
    beach.went_in = beach.went_in + n
    return [zone.swimmers]


def be_out(beach, k, n):
    if k >= len(beach.zones):
        return [NONE_THERE]
    if n == 0:
        return [WRONG]
    zone = beach.zones[k]
    if n > zone.swimmers:
        return [TOO_FEW]
    zone.swimmers = zone.swimmers - n
    return [zone.swimmers]


def be_rough(beach, p):
    if p > ROUGHEST:
        return [WRONG]
    beach.rough = p
    return [must_now(beach)]


def be_minutes(beach, n):
    if not is_within(n, 1, MOST_MINUTES):
        return [WRONG]
    if beach.minute + n > LAST_MINUTE:
        return [TOO_LATE]
    beach.minute = beach.minute + n
    return [beach.minute]


def be_rescue(beach, x, n):
    if x > beach.length or not is_within(n, 1, LONGEST_RESCUE):
        return [WRONG]
    if beach.rescues == MOST_RESCUES:
        return [FULL]
    nearest = nearest_tower(beach, x)
    if nearest is None:
        return [NOBODY]
    beach.towers[nearest[0]].away_until = beach.minute + n
    beach.rescues = beach.rescues + 1
    return [nearest[0], nearest[1], must_now(beach)]


def be_clear(beach):
    if must_now(beach) == 0:
        return [NOBODY]
    came_out = 0
    for k in range(len(beach.zones)):
        fewer = cleared_from(beach, k)
        beach.zones[k].swimmers = beach.zones[k].swimmers - fewer
        came_out = came_out + fewer
    return [came_out]


def be_return(beach, k):
    if k >= len(beach.towers):
        return [NONE_THERE]
    early = minutes_away(beach, beach.towers[k])
    if early == 0:
        return [SO_ALREADY]
    beach.towers[k].away_until = beach.minute
    return [early]
