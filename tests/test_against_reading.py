"""Lines of many calls, held against the plain reading of the document over all sets of zones and towers."""

import unittest
from random import Random

from beachkept.beach import answers
from tests.reading import TOP, Reading, lay, run


def read(line):
    reading = Reading()
    return reading, [reading.call(call) for call in line]


def places(rng, zones, towers):
    """A short shore, with towers that share zones and zones that share towers."""
    length = rng.choice([20, 60, 100])
    line = [("start", length, rng.randint(1, 9))]
    for zone in range(zones):
        begin = rng.randint(0, length - 1)
        line.append(("zone", begin, rng.randint(begin + 1, min(length, begin + length // 3))))
    for tower in range(towers):
        line.append(("tower", rng.randint(0, length), rng.randint(length // 4, length)))
    return line


def manned(rng, towers):
    return [("man", k, 1) for k in range(towers) if rng.random() < 0.85]


def swum(rng, line):
    """As many go in, zone by zone, as there is room for, or somewhat fewer."""
    reading = read(line)[0]
    calls = []
    for k in rng.sample(range(len(reading.zones)), len(reading.zones)):
        room = reading.room(k)
        if room > 0 and rng.random() < 0.9:
            calls.append(("in", k, rng.choice([room, rng.randint(1, room)])))
            reading.call(calls[-1])
    return calls


def troubles(rng, line):
    """A red flag, a rough sea, a guard away: some of them."""
    length, zones = line[0][1], sum(call[0] == "zone" for call in line)
    calls = []
    if rng.random() < 0.5:
        calls.append(("flag", rng.randrange(zones), 1))
    if rng.random() < 0.5:
        calls.append(("rough", rng.randint(0, 60)))
    for rescue in range(rng.randrange(3)):
        calls.append(("rescue", rng.randint(0, length), rng.randint(1, 9)))
    if rng.random() < 0.3:
        calls.append(("minutes", rng.randint(1, 9)))
    return calls


def beach_in_trouble(rng, zones, towers):
    line = places(rng, zones, towers) + manned(rng, towers)
    line += swum(rng, line)
    return line + troubles(rng, line)


def any_change(rng, reading):
    """A change at random, mostly one that could be made, now and then with a number that can't be."""
    zone = rng.randrange(len(reading.zones) + 1)
    tower = rng.randrange(len(reading.towers) + 1)
    room = reading.room(zone) if zone < len(reading.zones) else 1
    n = rng.choice([0, 1, 1, 2, 3, 5, 8, TOP])
    x = rng.randint(0, reading.length + 1)
    return rng.choice([
        ("man", tower, rng.choice([0, 1, 1, 2])), ("man", tower, rng.choice([0, 1])), ("man", tower, 1),
        ("flag", zone, rng.choice([0, 0, 1, 2])), ("flag", zone, 0),
        ("in", zone, n), ("in", zone, 1), ("in", zone, room), ("in", zone, room), ("in", zone, room // 2),
        ("out", zone, n), ("out", zone, 1), ("rough", rng.choice([0, 0, 10, 30, 100, 101])), ("rough", 0),
        ("minutes", rng.choice([0, 1, 2, 5, 1441])), ("minutes", 3),
        ("rescue", x, rng.choice([0, 1, 4, 240, 241])), ("rescue", x, 2), ("return", tower), ("return", tower),
        ("clear",), ("zone", x // 2, x), ("tower", x, rng.randint(0, reading.length)),
        ("start", reading.length, rng.choice([0, 101])),
    ])


def any_ask(rng, reading):
    k = rng.choice([0, 1, 2, 3, 4, 5, 6, 7, 8, rng.randint(9, TOP)])
    x = rng.choice([rng.randint(0, reading.length), rng.randint(0, reading.length), reading.length + 1, TOP])
    zones = rng.choice([rng.randrange(2 ** len(reading.zones)), rng.randrange(33), rng.randint(33, TOP)])
    n, sight = rng.choice([0, 1, 2, 10, 100, 101]), rng.choice([0, 1, 3, 100, 101])
    wide, turn = rng.choice([0, 1, 99, 10000, 10001]), rng.choice([0, 1, 10000, 10001])
    return rng.choice([
        ("safe",), ("must",), ("room", k), ("without", k), ("without", k), ("over", zones), ("over", zones),
        ("covers", k), ("nearest", x), ("reach", k), ("look", k), ("see", k), ("passes", wide, n, sight),
        ("lane", n, sight, turn, rng.choice([0, 1, n, 99])), ("gaps",), ("sums",), ("state",),
    ])


def any_call(rng, reading):
    part = rng.random()
    if part < 0.4:
        return any_change(rng, reading)
    if part < 0.85:
        return any_ask(rng, reading)
    if part < 0.92:
        return ("back",)
    if part < 0.97:
        return ("again",)
    return ("few",)


def following(rng, reading, zones, towers):
    """What comes next: mostly one call, now and then many steps back or again, or all from the beginning."""
    part = rng.random()
    if part < 0.002:
        return places(rng, zones, towers)
    if part < 0.02:
        return [("back",)] * min(rng.choice([2, 3, 5, 10, 31]), len(reading.past) + 1)
    if part < 0.2 and reading.future:
        return [("again",)] * min(rng.choice([1, 1, 2, 5, 10, 31]), len(reading.future) + 1)
    if part < 0.2:
        # A beach from which too much was taken back for good is built up again.
        if len(reading.zones) < zones:
            return places(rng, 1, 0)[1:]
        if len(reading.towers) < towers:
            return places(rng, 0, 1)[1:] + [("man", len(reading.towers), 1)]
    return [any_call(rng, reading)]


def random_line(rng, zones, towers, calls):
    """So many calls of all kinds, each chosen by how the beach is just then."""
    line = places(rng, zones, towers) + manned(rng, towers)
    reading = read(line)[0]
    while len(line) < calls:
        more = following(rng, reading, zones, towers)
        line += more
        for call in more:
            reading.call(call)
    return line[:calls]


class AgainstReading(unittest.TestCase):
    def agrees(self, line):
        reading, answered = read(line)
        for call, found, asked in zip(line, run(line), answered):
            self.assertEqual(found, asked, (call, line))
        return reading

    def test_any_lines(self):
        for seed in range(80):
            rng = Random(seed)
            self.agrees(random_line(rng, rng.randint(0, 4), rng.randint(0, 4), rng.choice([50, 150, 250])))

    def test_lines_of_a_thousand_calls(self):
        kinds = {}
        for seed in range(12):
            line = random_line(Random(seed), 2 + seed % 4, 3 + seed % 3, 1000)
            self.agrees(line)
            self.same_afterwards(lay(line))
            for call, told in zip(line, run(line)):
                kinds.setdefault(call[0], set()).add(min(told[0], 0))
        # Every kind of call is answered in some of them, and each of its refusals comes up, but those of late or full.
        self.assertEqual(kinds, {
            "start": {0, -22}, "zone": {0, -22, -28}, "tower": {0, -22, -28}, "man": {0, -2, -22, -17, -33},
            "flag": {0, -2, -22, -17}, "in": {0, -2, -22, -33}, "out": {0, -2, -22, -12}, "rough": {0, -22},
            "minutes": {0, -22}, "rescue": {0, -22, -6}, "clear": {0, -6}, "return": {0, -2, -17}, "safe": {0},
            "must": {0}, "room": {0, -2}, "few": {0, -33}, "without": {0, -2, -6}, "over": {0, -22},
            "covers": {0, -2}, "nearest": {0, -22, -6}, "reach": {0, -2}, "look": {0, -2}, "see": {0, -2},
            "passes": {0, -22}, "lane": {0, -22}, "gaps": {0}, "sums": {0}, "back": {0, -2}, "again": {0, -2},
            "state": {0},
        })

    def same_afterwards(self, handed):
        before = list(handed)
        first = answers(handed)
        self.assertEqual(handed, before)
        self.assertEqual(answers(handed), first)
        self.assertEqual(handed, before)

    def test_one_large_beach(self):
        self.agrees(random_line(Random(1), 5, 8, 300))

    def test_must_and_room_over_all_sets_of_zones(self):
        in_trouble = 0
        for seed in range(150):
            rng = Random(seed)
            line = beach_in_trouble(rng, rng.randint(3, 5), rng.randint(2, 8))
            in_trouble += self.agrees(line + [("safe",), ("must",)]).must() > 0
            self.agrees(line + [("room", k) for k in range(5)])
        self.assertGreater(in_trouble, 50)
        self.assertGreater(150 - in_trouble, 20)

    def test_room_is_what_can_still_be_watched(self):
        for seed in range(80):
            rng = Random(seed)
            line = places(rng, rng.randint(2, 5), rng.randint(2, 6))
            line += manned(rng, 6)
            line += swum(rng, line)[:2]
            reading = read(line)[0]
            swim = reading.swim(range(len(reading.zones)))
            for k, zone in enumerate(reading.zones):
                room = run(line + [("room", k)])[-1][0]
                zone["swim"] += room
                self.assertEqual(reading.most_watched(), swim + room)
                zone["swim"] += 1
                self.assertEqual(reading.most_watched(), swim + room)
                zone["swim"] -= room + 1

    def test_must_is_whom_nobody_watches(self):
        for seed in range(150):
            rng = Random(seed)
            line = beach_in_trouble(rng, rng.randint(2, 5), rng.randint(2, 8))
            reading = read(line)[0]
            safe, must = run(line + [("safe",), ("must",)])[-2:]
            self.assertEqual(safe[1] - must[0], reading.most_watched())
            self.assertEqual(safe[0] == 1, must[0] == 0)

    def test_few_over_all_sets_of_towers(self):
        found = {}
        for seed in range(40):
            rng = Random(seed)
            line = beach_in_trouble(rng, rng.randint(2, 4), rng.choice([3, 4, 5, 6]))
            self.agrees(line + [("few",)])
            answer = run(line + [("few",)])[-1][0]
            found[answer] = found.get(answer, 0) + 1
        self.assertGreater(found[-33], 3)
        self.assertGreater(len(found), 4)

    def test_few_with_five_zones_and_eight_towers(self):
        for seed in range(4):
            self.agrees(beach_in_trouble(Random(seed), 5, 8) + [("few",)])


class Cleared(unittest.TestCase):
    def test_just_so_many_come_out_of_each_zone(self):
        cleared = 0
        for seed in range(120):
            rng = Random(seed)
            line = beach_in_trouble(rng, rng.randint(2, 5), rng.randint(2, 6))
            reading = read(line)[0]
            must, swam = reading.must(), reading.be_safe()[1]
            answered = reading.be_clear()
            after = run(line + [("clear",), ("must",), ("safe",), ("clear",)])[-4:]
            if must == 0:
                self.assertEqual(after[0], [-6])
                continue
            cleared += 1
            self.assertEqual(answered, [must])
            self.assertEqual(after, [[must], [0, 0], [1, swam - must], [-6]], line)
            for k, zone in enumerate(reading.zones):
                self.swims(line + [("clear",)], k, zone["swim"])
        self.assertGreater(cleared, 40)

    def swims(self, line, k, swimmers):
        self.assertEqual(run(line + [("out", k, swimmers + 1)])[-1], [-12])
        if swimmers > 0:
            self.assertEqual(run(line + [("out", k, swimmers)])[-1], [0])


if __name__ == "__main__":
    unittest.main()
