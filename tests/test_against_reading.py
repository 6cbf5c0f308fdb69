"""Lines of many calls, held against the plain reading of the document over all sets of zones and towers."""

import unittest
from random import Random

from tests.reading import TOP, Reading, run


def read(line):
    reading = Reading()
    return reading, [reading.call(call) for call in line]


def places(rng, zones, towers):
    """A short shore, with towers that share zones and zones that share towers."""
    length = rng.choice([20, 60, 100])
    line = [("start", length, rng.randint(1, 9))]
    for zone in range(zones):
        begin = rng.randint(0, length - 1)
        line.append(("zone", begin, rng.randint(begin + 1, min(length, begin + length // 3))))
    for tower in range(towers):
        line.append(("tower", rng.randint(0, length), rng.randint(length // 4, length)))
    return line


def manned(rng, towers):
    return [("man", k, 1) for k in range(towers) if rng.random() < 0.85]


def swum(rng, line):
    """As many go in, zone by zone, as there is room for, or somewhat fewer."""
    reading = read(line)[0]
    calls = []
    for k in rng.sample(range(len(reading.zones)), len(reading.zones)):
        room = reading.room(k)
        if room > 0 and rng.random() < 0.9:
            calls.append(("in", k, rng.choice([room, rng.randint(1, room)])))
            reading.call(calls[-1])
    return calls


def troubles(rng, line):
    """A red flag, a rough sea, a guard away: some of them."""
    length, zones = line[0][1], sum(call[0] == "zone" for call in line)
    calls = []
    if rng.random() < 0.5:
        calls.append(("flag", rng.randrange(zones), 1))
    if rng.random() < 0.5:
        calls.append(("rough", rng.randint(0, 60)))
    for rescue in range(rng.randrange(3)):
        calls.append(("rescue", rng.randint(0, length), rng.randint(1, 9)))
    if rng.random() < 0.3:
        calls.append(("minutes", rng.randint(1, 9)))
    return calls


def beach_in_trouble(rng, zones, towers):
    line = places(rng, zones, towers) + manned(rng, towers)
    line += swum(rng, line)
    return line + troubles(rng, line)


def any_call(rng, reading):
    """A call at random, mostly one that could be taken, now and then with a number that can't."""
    zone = rng.randrange(len(reading.zones) + 1)
    tower = rng.randrange(len(reading.towers) + 1)
    n = rng.choice([0, 1, 1, 2, 3, 5, 8, TOP])
    x = rng.randint(0, reading.length + 1)
    return rng.choice([
        ("man", tower, rng.choice([0, 1, 1, 2])), ("man", tower, rng.choice([0, 1])),
        ("flag", zone, rng.choice([0, 0, 1, 2])), ("flag", zone, 0),
        ("in", zone, n), ("in", zone, reading.room(zone) if zone < len(reading.zones) else 1), ("in", zone, 1),
        ("out", zone, n), ("rough", rng.choice([0, 0, 10, 30, 100, 101])), ("rough", 0),
        ("minutes", rng.choice([0, 1, 2, 5, 1441])), ("minutes", 3),
        ("rescue", x, rng.choice([0, 1, 4, 240, 241])), ("rescue", x, 2),
        ("clear",), ("zone", x // 2, x), ("tower", x, rng.randint(0, reading.length)),
        ("start", reading.length, rng.choice([0, 101])),
    ])


def random_line(rng):
    line = places(rng, rng.randint(1, 4), rng.randint(1, 4))
    reading = read(line)[0]
    for step in range(60):
        line.append(any_call(rng, reading))
        reading.call(line[-1])
        line += [("safe",), ("must",), ("room", rng.randrange(6))]
        if step % 10 == 0:
            line.append(("few",))
    return line


class AgainstReading(unittest.TestCase):
    def agrees(self, line):
        reading, answered = read(line)
        for call, found, asked in zip(line, run(line), answered):
            self.assertEqual(found, asked, (call, line))
        return reading

    def test_any_lines(self):
        for seed in range(60):
            self.agrees(random_line(Random(seed)))

    def test_must_and_room_over_all_sets_of_zones(self):
        in_trouble = 0
        for seed in range(150):
            rng = Random(seed)
            line = beach_in_trouble(rng, rng.randint(3, 5), rng.randint(2, 8))
            in_trouble += self.agrees(line + [("safe",), ("must",)]).must() > 0
            self.agrees(line + [("room", k) for k in range(5)])
        self.assertGreater(in_trouble, 50)
        self.assertGreater(150 - in_trouble, 20)

    def test_room_is_what_can_still_be_watched(self):
        for seed in range(80):
            rng = Random(seed)
            line = places(rng, rng.randint(2, 5), rng.randint(2, 6))
            line += manned(rng, 6)
            line += swum(rng, line)[:2]
            reading = read(line)[0]
            swim = reading.swim(range(len(reading.zones)))
            for k, zone in enumerate(reading.zones):
                room = run(line + [("room", k)])[-1][0]
                zone["swim"] += room
                self.assertEqual(reading.most_watched(), swim + room)
                zone["swim"] += 1
                self.assertEqual(reading.most_watched(), swim + room)
                zone["swim"] -= room + 1

    def test_must_is_whom_nobody_watches(self):
        for seed in range(150):
            rng = Random(seed)
            line = beach_in_trouble(rng, rng.randint(2, 5), rng.randint(2, 8))
            reading = read(line)[0]
            safe, must = run(line + [("safe",), ("must",)])[-2:]
            self.assertEqual(safe[1] - must[0], reading.most_watched())
            self.assertEqual(safe[0] == 1, must[0] == 0)

    def test_few_over_all_sets_of_towers(self):
        found = {}
        for seed in range(40):
            rng = Random(seed)
            line = beach_in_trouble(rng, rng.randint(2, 4), rng.choice([3, 4, 5, 6]))
            self.agrees(line + [("few",)])
            answer = run(line + [("few",)])[-1][0]
            found[answer] = found.get(answer, 0) + 1
        self.assertGreater(found[-33], 3)
        self.assertGreater(len(found), 4)

    def test_few_with_five_zones_and_eight_towers(self):
        for seed in range(4):
            self.agrees(beach_in_trouble(Random(seed), 5, 8) + [("few",)])


class Cleared(unittest.TestCase):
    def test_just_so_many_come_out_of_each_zone(self):
        cleared = 0
        for seed in range(120):
            rng = Random(seed)
            line = beach_in_trouble(rng, rng.randint(2, 5), rng.randint(2, 6))
            reading = read(line)[0]
            must, swam = reading.must(), reading.be_safe()[1]
            answered = reading.be_clear()
            after = run(line + [("clear",), ("must",), ("safe",), ("clear",)])[-4:]
            if must == 0:
                self.assertEqual(after[0], [-6])
                continue
            cleared += 1
            self.assertEqual(answered, [must])
            self.assertEqual(after, [[must], [0, 0], [1, swam - must], [-6]], line)
            for k, zone in enumerate(reading.zones):
                self.swims(line + [("clear",)], k, zone["swim"])
        self.assertGreater(cleared, 40)

    def swims(self, line, k, swimmers):
        self.assertEqual(run(line + [("out", k, swimmers + 1)])[-1], [-12])
        if swimmers > 0:
            self.assertEqual(run(line + [("out", k, swimmers)])[-1], [0])


if __name__ == "__main__":
    unittest.main()
