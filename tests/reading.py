"""For the tests: calls laid one behind another, beaches to start from, and a plain reading of the document.

The reading is kept apart from the program. It goes over all sets one by one, lets swimmers come out one by one, and
knows no short cut.
"""

import unittest
from functools import lru_cache
from itertools import chain, combinations

from beachkept.beach import answers

TOP = 4294967295

NAMES = (
    "start", "zone", "tower", "man", "flag", "in", "out", "rough", "minutes", "rescue", "clear", "safe", "must",
    "room", "few", "without", "over", "covers", "nearest", "reach", "look", "see", "return", "passes", "lane", "gaps",
    "sums", "back", "again", "state",
)
CHANGES = ("zone", "tower", "man", "flag", "in", "out", "rough", "minutes", "rescue", "clear", "return")


def lay(line):
    """[("start", 100, 10), ("clear",)] as the numbers that are handed in."""
    return [number for call in line for number in (NAMES.index(call[0]),) + tuple(call[1:])]


def split(told):
    """The answers of each call, one list each."""
    parts = []
    at = 0
    while at < len(told):
        parts.append(told[at + 1:at + 1 + told[at]])
        assert len(parts[-1]) == told[at]
        at += 1 + told[at]
    return parts


def run(line):
    parts = split(answers(lay(line)))
    assert len(parts) == len(line)
    return parts


def last(line):
    return run(line)[-1]


# Tower 0 watches zone 0; tower 1 zones 0 and 1, with its last metre; tower 2 zone 2, with its last metre.
PLACES = [
    ("start", 1000, 10),
    ("zone", 100, 200), ("zone", 150, 300), ("zone", 600, 700),
    ("tower", 150, 60), ("tower", 200, 100), ("tower", 650, 50),
]
MANNED = PLACES + [("man", 0, 1), ("man", 1, 1), ("man", 2, 1)]
SWUM = MANNED + [("in", 0, 12), ("in", 1, 7), ("in", 2, 10)]
AWAY = SWUM + [("minutes", 30), ("rescue", 640, 20)]

# All that a change can change.
SHOWS = [("sums",)] + [("look", k) for k in range(6)] + [("see", k) for k in range(9)] + [("state",)]
LOOKS = (
    SHOWS + [("safe",), ("must",), ("few",), ("gaps",)] + [("room", k) for k in range(6)]
    + [(word, k) for word in ("without", "covers", "reach") for k in range(9)]
    + [("over", zones) for zones in (0, 1, 2, 4, 7, 31, 32)] + [("nearest", x) for x in (0, 400, 1000, 1001)]
)
# Asks all that can be asked, goes through all that was changed, then changes all that can be changed.
PROBES = (
    LOOKS
    + [("again",), ("state",), ("sums",)] * 31 + [("back",), ("state",), ("sums",)] * 31 + [("again",)] * 31
    + LOOKS
    + [("return", k) for k in range(9)] + [("back",)] * 9
    + [("man", k, on) for k in range(9) for on in (1, 0)] + LOOKS
    + [("flag", k, red) for k in range(6) for red in (1, 0)] + LOOKS
    + [("in", k, 1) for k in range(6)] + [("out", k, 2) for k in range(6)] + LOOKS
    + [("minutes", 1), ("clear",), ("rescue", 0, 7), ("rescue", 1000, 7), ("minutes", 19)] + LOOKS
    + [("rough", p) for p in (40, 17, 1, 0)] + LOOKS
    + [("zone", 0, 1000)] * 6 + [("tower", 1000, 10000)] * 9 + LOOKS
)
# Leaves all as it was, but for two changes that can be done again.
DETOUR = [("rough", 3), ("rough", 30), ("back",), ("back",)]


@lru_cache(maxsize=100)
def probed(line):
    return run(list(line) + PROBES)[len(line):]


class CallTest(unittest.TestCase):
    def answered(self, line, call, answer):
        self.assertEqual(last(line + [call]), answer, call)

    def refused(self, line, call, refusal):
        for begun in (line, line + DETOUR):
            after = run(begun + [call] + PROBES)[len(begun):]
            self.assertEqual(after[0], [refusal], call)
            self.assertEqual(after[1:], probed(tuple(begun)), call)

    def all_refused(self, line, calls, refusal):
        for call in calls:
            with self.subTest(call=call):
                self.refused(line, call, refusal)


def all_sets(members):
    members = list(members)
    return chain.from_iterable(combinations(members, size) for size in range(len(members) + 1))


def as_bits(members):
    return sum(2 ** k for k in members)


class Reading:
    """The document, read plainly. A call's answer is a list of numbers, like the program's."""

    def __init__(self):
        self.length = self.each = 0

    def call(self, call):
        """Answers a call; if it is a change, it can be taken back then."""
        before = self.copied() if call[0] in CHANGES else None
        answered = getattr(self, "be_" + call[0])(*call[1:])
        if before is not None and answered[0] >= 0:
            self.past = (self.past + [before])[-30:]
            self.future = []
        return answered

    def copied(self):
        zones, towers = [dict(zone) for zone in self.zones], [dict(tower) for tower in self.towers]
        return zones, towers, self.rough, self.minute, self.went_in, self.came_out, self.rescues

    def become(self, copied):
        self.zones, self.towers, self.rough, self.minute, self.went_in, self.came_out, self.rescues = copied

    # "The beach"

    def reach(self, t):
        return self.towers[t]["reach"] * (100 - self.rough) // 100

    def is_there(self, t, duty):
        return t in duty and self.towers[t]["away"] <= self.minute

    def watches(self, t, z, duty):
        zone, at = self.zones[z], self.towers[t]["at"]
        if not self.is_there(t, duty) or zone["red"]:
            return False
        return max(abs(zone["from"] - at), abs(zone["to"] - at)) <= self.reach(t)

    def duty(self):
        return [t for t in range(len(self.towers)) if self.towers[t]["on"]]

    def can_watch(self, zones, duty):
        return self.each * sum(
            any(self.watches(t, z, duty) for z in zones) for t in range(len(self.towers))
        )

    def swim(self, zones):
        return sum(self.zones[z]["swim"] for z in zones)

    def more(self, zones, duty):
        return max(0, self.swim(zones) - self.can_watch(zones, duty))

    def must(self, duty=None):
        duty = self.duty() if duty is None else duty
        return max(self.more(zones, duty) for zones in all_sets(range(len(self.zones))))

    def room(self, k):
        if self.must() > 0:
            return 0
        with_it = [zones for zones in all_sets(range(len(self.zones))) if k in zones]
        left = min(self.can_watch(zones, self.duty()) - self.swim(zones) for zones in with_it)
        return min(left, 1000 - self.zones[k]["swim"])

    def nearest(self, x):
        """How far, and which tower; None if no guard is there."""
        there = [t for t in self.duty() if self.is_there(t, self.duty())]
        return min(((abs(self.towers[t]["at"] - x), t) for t in there), default=None)

    # "The promises"

    def be_start(self, length, each):
        if not 1 <= length <= 10000 or not 1 <= each <= 100:
            return [-22]
        self.length, self.each = length, each
        self.zones, self.towers = [], []
        self.rough = self.minute = self.went_in = self.came_out = self.rescues = 0
        self.past, self.future = [], []
        return [0]

    def be_zone(self, begin, end):
        if end <= begin or end > self.length:
            return [-22]
        if len(self.zones) >= 5:
            return [-28]
        self.zones.append({"from": begin, "to": end, "red": False, "swim": 0})
        return [len(self.zones) - 1]

    def be_tower(self, at, reach):
        if at > self.length or not 1 <= reach <= 10000:
            return [-22]
        if len(self.towers) >= 8:
            return [-28]
        self.towers.append({"at": at, "reach": reach, "on": False, "away": 0})
        return [len(self.towers) - 1]

    def be_man(self, k, on):
        if k >= len(self.towers):
            return [-2]
        if on > 1:
            return [-22]
        if self.towers[k]["on"] == bool(on):
            return [-17]
        if not on and self.must([t for t in self.duty() if t != k]) > self.must():
            return [-33]
        self.towers[k]["on"] = bool(on)
        return [len(self.duty())]

    def be_flag(self, k, red):
        if k >= len(self.zones):
            return [-2]
        if red > 1:
            return [-22]
        if self.zones[k]["red"] == bool(red):
            return [-17]
        self.zones[k]["red"] = bool(red)
        return [self.must()]

    def be_in(self, k, n):
        if k >= len(self.zones):
            return [-2]
        if n == 0:
            return [-22]
        if n > self.room(k):
            return [-33]
        if self.went_in + n > 20000:
            return [-28]
        self.zones[k]["swim"] += n
        self.went_in += n
        return [self.zones[k]["swim"]]

    def be_out(self, k, n):
        if k >= len(self.zones):
            return [-2]
        if n == 0:
            return [-22]
        if n > self.zones[k]["swim"]:
            return [-12]
        self.zones[k]["swim"] -= n
        self.came_out += n
        return [self.zones[k]["swim"]]

    def be_rough(self, p):
        if p > 100:
            return [-22]
        self.rough = p
        return [self.must()]

    def be_minutes(self, n):
        if not 1 <= n <= 1440:
            return [-22]
        if self.minute + n > 100000:
            return [-75]
        self.minute += n
        return [self.minute]

    def be_rescue(self, x, n):
        if x > self.length or not 1 <= n <= 240:
            return [-22]
        if self.rescues >= 1000:
            return [-28]
        if self.nearest(x) is None:
            return [-6]
        far, tower = self.nearest(x)
        self.towers[tower]["away"] = self.minute + n
        self.rescues += 1
        return [tower, far, self.must()]

    def be_clear(self):
        if self.must() == 0:
            return [-6]
        before = self.came_out
        for zone in self.zones:
            while zone["swim"] > 0:
                must = self.must()
                zone["swim"] -= 1
                if self.must() == must:
                    zone["swim"] += 1
                    break
                self.came_out += 1
        return [self.came_out - before]

    def be_return(self, k):
        if k >= len(self.towers):
            return [-2]
        early = self.towers[k]["away"] - self.minute
        if early <= 0:
            return [-17]
        self.towers[k]["away"] = self.minute
        return [early]

    def be_safe(self):
        return [int(self.must() == 0), self.swim(range(len(self.zones)))]

    def be_must(self):
        must = self.must()
        if must == 0:
            return [0, 0]
        sets = all_sets(range(len(self.zones)))
        return [must, min(as_bits(zones) for zones in sets if self.more(zones, self.duty()) == must)]

    def be_room(self, k):
        return [self.room(k)] if k < len(self.zones) else [-2]

    def be_few(self):
        sets = all_sets(range(len(self.towers)))
        enough = [(len(towers), as_bits(towers)) for towers in sets if self.must(towers) == 0]
        return list(min(enough)) if enough else [-33]

    def be_without(self, k):
        if k >= len(self.towers):
            return [-2]
        if not self.towers[k]["on"]:
            return [-6]
        return [self.must([t for t in self.duty() if t != k])]

    def be_over(self, zones):
        if zones not in [as_bits(members) for members in all_sets(range(len(self.zones)))]:
            return [-22]
        named = [z for z in range(len(self.zones)) if zones & 2 ** z]
        towers = [t for t in range(len(self.towers)) if any(self.watches(t, z, self.duty()) for z in named)]
        return [len(towers), as_bits(towers), self.swim(named)]

    def be_covers(self, k):
        if k >= len(self.towers):
            return [-2]
        zones = [z for z in range(len(self.zones)) if self.watches(k, z, self.duty())]
        return [len(zones), as_bits(zones)]

    def be_nearest(self, x):
        if x > self.length:
            return [-22]
        if self.nearest(x) is None:
            return [-6]
        far, tower = self.nearest(x)
        return [tower, far]

    def be_reach(self, k):
        return [self.reach(k), int(self.is_there(k, self.duty()))] if k < len(self.towers) else [-2]

    def be_look(self, k):
        if k >= len(self.zones):
            return [-2]
        zone = self.zones[k]
        return [zone["swim"], zone["from"], zone["to"], int(zone["red"])]

    def be_see(self, k):
        if k >= len(self.towers):
            return [-2]
        tower = self.towers[k]
        return [tower["at"], tower["reach"], int(tower["on"]), max(0, tower["away"] - self.minute)]

    def be_passes(self, wide, n, sight):
        if not 1 <= n <= 100 or not 1 <= sight <= 100 or wide > 10000:
            return [-22]
        passes = seen = 0
        while seen < wide:
            passes += 1
            seen += n * sight
        return [passes]

    def be_lane(self, n, sight, turn, k):
        if not 1 <= n <= 100 or not 1 <= sight <= 100 or turn > 10000 or k >= n:
            return [-22]
        return [2 * (n * sight * turn + k * sight) + sight]

    def be_gaps(self):
        towers = range(len(self.towers))
        zones = [z for z in range(len(self.zones)) if not any(self.watches(t, z, self.duty()) for t in towers)]
        return [len(zones), as_bits(zones)]

    def be_sums(self):
        return [self.went_in, self.swim(range(len(self.zones))), self.came_out, self.rescues]

    def be_back(self):
        if not self.past:
            return [-2]
        self.future.append(self.copied())
        self.become(self.past.pop())
        return [len(self.past)]

    def be_again(self):
        if not self.future:
            return [-2]
        self.past.append(self.copied())
        self.become(self.future.pop())
        return [len(self.future)]

    def be_state(self):
        return [self.minute, len(self.zones), len(self.towers), self.rough, len(self.past), len(self.future)]

    # "What holds"

    def most_watched(self):
        """How many swimmers find somebody who watches them, each guard no more than they can: handed out one by one,
        and handed on from guard to guard where that makes a place free."""
        watched = [[] for tower in self.towers]
        return sum(
            self.find_guard(z, watched, set()) for z, zone in enumerate(self.zones) for swimmer in range(zone["swim"])
        )

    def find_guard(self, z, watched, tried):
        for t in range(len(self.towers)):
            if t in tried or not self.watches(t, z, self.duty()):
                continue
            tried.add(t)
            if len(watched[t]) < self.each:
                watched[t].append(z)
                return True
            for place, other in enumerate(watched[t]):
                if other != z and other not in watched[t][:place] and self.find_guard(other, watched, tried):
                    watched[t][place] = z
                    return True
        return False
