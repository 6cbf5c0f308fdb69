"""Who watches whom: how many must come out, where there is room, which towers are enough, who is nearest."""

from beachkept.bits import bits_of, has, sums_of_sets, unions_of_sets
from beachkept.limits import MOST_IN_ZONE


def reach_now(beach, tower):
    return tower.reach * (100 - beach.rough) // 100


def minutes_away(beach, tower):
    """For how many minutes its guard is away yet."""
    return max(0, tower.away_until - beach.minute)


def is_back(beach, tower):
    return minutes_away(beach, tower) == 0


def guard_is_there(beach, tower):
    return tower.on_duty == 1 and is_back(beach, tower)


def would_watch(beach, tower, zone):
    """Whether the tower watches the zone, if only it is on duty."""
    reach = reach_now(beach, tower)
    reaches_all = abs(zone.begin - tower.at) <= reach and abs(zone.end - tower.at) <= reach
    return is_back(beach, tower) and zone.red == 0 and reaches_all


def watches(beach, tower, zone):
    return tower.on_duty == 1 and would_watch(beach, tower, zone)


def towers_for(beach, zone):
    """The towers that watch the zone, if only they are on duty, as bits."""
    return bits_of([would_watch(beach, tower, zone) for tower in beach.towers])


def towers_on_duty(beach):
    return bits_of([tower.on_duty == 1 for tower in beach.towers])


class ZoneSets:
    """All sets of zones, in the order of their bits: who swims there, and which towers are for one of them.

    It is reckoned once, because the fewest towers are looked for among many sets of towers.
    """

    def __init__(self, beach):
        self.each = beach.each
        self.swim_there = sums_of_sets([zone.swimmers for zone in beach.zones])
        self.watch_there = unions_of_sets([towers_for(beach, zone) for zone in beach.zones])
        self.tower_counts = sums_of_sets([1 for tower in beach.towers])

    def excesses(self, duty):
        """Of each set, how many more swim there than can be watched, were just the towers of duty on duty.

        Below 0 it tells how many more could be watched there: room is found from that.
        """
        counts = self.tower_counts
        return [
            swim - self.each * counts[towers & duty]
            for swim, towers in zip(self.swim_there, self.watch_there)
        ]

    def must_come_out(self, duty):
        # The set of no zones is among them, so this is never below 0.
        return max(self.excesses(duty))


def excesses_now(beach):
    return ZoneSets(beach).excesses(towers_on_duty(beach))


def must_now(beach):
    return max(excesses_now(beach))


def must_without(beach, k):
    """How many would have to come out without tower k, which is on duty."""
    return ZoneSets(beach).must_come_out(towers_on_duty(beach) - (1 << k))


def swimmers_in(zones):
    return sum([zone.swimmers for zone in zones])


def room_in(beach, k):
    excesses = excesses_now(beach)
    if max(excesses) > 0:
        return 0
    left = min([-excess for zones, excess in enumerate(excesses) if has(zones, k)])
    return min(left, MOST_IN_ZONE - beach.zones[k].swimmers)


def cleared_from(beach, k):
    """How many come out of zone k when the beach is cleared there.

    Each of them lessens the excess of just the sets with the zone. So each makes fewer that must come out, till
    a set without it has the greatest excess; and the zone is not empty before, because no set's excess is more
    than its swimmers above that of the same set without it.
    """
    excesses = excesses_now(beach)
    return max(excesses) - max([excess for zones, excess in enumerate(excesses) if not has(zones, k)])


def fewest_towers(beach):
    """The fewest towers with which all could be watched, as bits, and how many; None if there are none such."""
    zone_sets = ZoneSets(beach)
    best = None
    for towers, count in enumerate(zone_sets.tower_counts):
        # Sets come rising, so of like ones the least is kept.
        if best is None or count < best[1]:
            if zone_sets.must_come_out(towers) == 0:
                best = (towers, count)
    return best


def nearest_tower(beach, x):
    """The nearest tower whose guard is there, and how far it is; None if no guard is there."""
    best = None
    for k, tower in enumerate(beach.towers):
        far = abs(tower.at - x)
        if guard_is_there(beach, tower) and (best is None or far < best[1]):
            best = (k, far)
    return best
