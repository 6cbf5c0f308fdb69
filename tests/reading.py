"""For the tests: calls laid one behind another, and a plain reading of the document, kept apart from the program.

The reading goes over all sets one by one, lets swimmers come out one by one, and knows no short cut.
"""

from itertools import chain, combinations

from beachkept.beach import answers

TOP = 4294967295

NAMES = (
    "start", "zone", "tower", "man", "flag", "in", "out", "rough", "minutes", "rescue", "clear", "safe", "must",
    "room", "few",
)


def lay(line):
    """[("start", 100, 10), ("clear",)] as the numbers that are handed in."""
    return [number for call in line for number in (NAMES.index(call[0]),) + tuple(call[1:])]


def split(told):
    """The answers of each call, one list each."""
    parts = []
    at = 0
    while at < len(told):
        parts.append(told[at + 1:at + 1 + told[at]])
        assert len(parts[-1]) == told[at]
        at += 1 + told[at]
    return parts


def run(line):
    parts = split(answers(lay(line)))
    assert len(parts) == len(line)
    return parts


def last(line):
    return run(line)[-1]


def all_sets(members):
    members = list(members)
    return chain.from_iterable(combinations(members, size) for size in range(len(members) + 1))


def as_bits(members):
    return sum(2 ** k for k in members)


class Reading:
    """The document, read plainly. A call's answer is a list of numbers, like the program's."""

    def __init__(self):
        self.length = self.each = 0

    def call(self, call):
        return getattr(self, "be_" + call[0])(*call[1:])

    # "The beach"

    def reach(self, t):
        return self.towers[t]["reach"] * (100 - self.rough) // 100

    def is_there(self, t, duty):
        return t in duty and self.towers[t]["away"] <= self.minute

    def watches(self, t, z, duty):
        zone, at = self.zones[z], self.towers[t]["at"]
        if not self.is_there(t, duty) or zone["red"]:
            return False
        return max(abs(zone["from"] - at), abs(zone["to"] - at)) <= self.reach(t)

    def duty(self):
        return [t for t in range(len(self.towers)) if self.towers[t]["on"]]

    def can_watch(self, zones, duty):
        return self.each * sum(
            any(self.watches(t, z, duty) for z in zones) for t in range(len(self.towers))
        )

    def swim(self, zones):
        return sum(self.zones[z]["swim"] for z in zones)

    def more(self, zones, duty):
        return max(0, self.swim(zones) - self.can_watch(zones, duty))

    def must(self, duty=None):
        duty = self.duty() if duty is None else duty
        return max(self.more(zones, duty) for zones in all_sets(range(len(self.zones))))

    def room(self, k):
        if self.must() > 0:
            return 0
        with_it = [zones for zones in all_sets(range(len(self.zones))) if k in zones]
        left = min(self.can_watch(zones, self.duty()) - self.swim(zones) for zones in with_it)
        return min(left, 1000 - self.zones[k]["swim"])

    # "The promises"

    def be_start(self, length, each):
        if not 1 <= length <= 10000 or not 1 <= each <= 100:
            return [-22]
        self.length, self.each = length, each
        self.zones, self.towers = [], []
        self.rough = self.minute = self.went_in = self.came_out = self.rescues = 0
        return [0]

    def be_zone(self, begin, end):
        if end <= begin or end > self.length:
            return [-22]
        if len(self.zones) >= 5:
            return [-28]
        self.zones.append({"from": begin, "to": end, "red": False, "swim": 0})
        return [len(self.zones) - 1]

    def be_tower(self, at, reach):
        if at > self.length or not 1 <= reach <= 10000:
            return [-22]
        if len(self.towers) >= 8:
            return [-28]
        self.towers.append({"at": at, "reach": reach, "on": False, "away": 0})
        return [len(self.towers) - 1]

    def be_man(self, k, on):
        if k >= len(self.towers):
            return [-2]
        if on > 1:
            return [-22]
        if self.towers[k]["on"] == bool(on):
            return [-17]
        if not on and self.must([t for t in self.duty() if t != k]) > self.must():
            return [-33]
        self.towers[k]["on"] = bool(on)
        return [len(self.duty())]

    def be_flag(self, k, red):
        if k >= len(self.zones):
            return [-2]
        if red > 1:
            return [-22]
        if self.zones[k]["red"] == bool(red):
            return [-17]
        self.zones[k]["red"] = bool(red)
        return [self.must()]

    def be_in(self, k, n):
        if k >= len(self.zones):
            return [-2]
        if n == 0:
            return [-22]
        if n > self.room(k):
            return [-33]
        if self.went_in + n > 20000:
            return [-28]
        self.zones[k]["swim"] += n
        self.went_in += n
        return [self.zones[k]["swim"]]

    def be_out(self, k, n):
        if k >= len(self.zones):
            return [-2]
        if n == 0:
            return [-22]
        if n > self.zones[k]["swim"]:
            return [-12]
        self.zones[k]["swim"] -= n
        self.came_out += n
        return [self.zones[k]["swim"]]

    def be_rough(self, p):
        if p > 100:
            return [-22]
        self.rough = p
        return [self.must()]

    def be_minutes(self, n):
        if not 1 <= n <= 1440:
            return [-22]
        if self.minute + n > 100000:
            return [-75]
        self.minute += n
        return [self.minute]

    def be_rescue(self, x, n):
        if x > self.length or not 1 <= n <= 240:
            return [-22]
        if self.rescues >= 1000:
            return [-28]
        there = [t for t in self.duty() if self.is_there(t, self.duty())]
        if not there:
            return [-6]
        far, tower = min((abs(self.towers[t]["at"] - x), t) for t in there)
        self.towers[tower]["away"] = self.minute + n
        self.rescues += 1
        return [tower, far, self.must()]

    def be_clear(self):
        if self.must() == 0:
            return [-6]
        before = self.came_out
        for zone in self.zones:
            while zone["swim"] > 0:
                must = self.must()
                zone["swim"] -= 1
                if self.must() == must:
                    zone["swim"] += 1
                    break
                self.came_out += 1
        return [self.came_out - before]

    def be_safe(self):
        return [int(self.must() == 0), self.swim(range(len(self.zones)))]

    def be_must(self):
        must = self.must()
        if must == 0:
            return [0, 0]
        sets = all_sets(range(len(self.zones)))
        return [must, min(as_bits(zones) for zones in sets if self.more(zones, self.duty()) == must)]

    def be_room(self, k):
        return [self.room(k)] if k < len(self.zones) else [-2]

    def be_few(self):
        sets = all_sets(range(len(self.towers)))
        enough = [(len(towers), as_bits(towers)) for towers in sets if self.must(towers) == 0]
        return list(min(enough)) if enough else [-33]

    # "What holds"

    def most_watched(self):
        """How many swimmers find somebody who watches them, each guard no more than they can: handed out one by one,
        and handed on from guard to guard where that makes a place free."""
        watched = [[] for tower in self.towers]
        return sum(
            self.find_guard(z, watched, set()) for z, zone in enumerate(self.zones) for swimmer in range(zone["swim"])
        )

    def find_guard(self, z, watched, tried):
        for t in range(len(self.towers)):
            if t in tried or not self.watches(t, z, self.duty()):
                continue
            tried.add(t)
            if len(watched[t]) < self.each:
                watched[t].append(z)
                return True
            for place, other in enumerate(watched[t]):
                if other != z and other not in watched[t][:place] and self.find_guard(other, watched, tried):
                    watched[t][place] = z
                    return True
        return False
