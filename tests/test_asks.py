"""The calls 15 to 22, 25, 26 and 29, each: what it answers, each refusal at its edges, and which of two is told."""

import unittest
from random import Random

from tests.reading import AWAY, LOOKS, MANNED, PLACES, PROBES, SWUM, TOP, CallTest, as_bits, last, probed, run

EMPTY = [("start", 1000, 10)]
FULL = EMPTY + [("zone", 0, 100 * k + 100) for k in range(5)] + [("tower", 100 * k, 1000) for k in range(8)]


class Without(CallTest):
    def test_how_many_would_have_to_come_out(self):
        self.assertEqual(run(SWUM + [("without", k) for k in range(3)])[-3:], [[9], [9], [10]])
        self.assertEqual(run(MANNED + [("without", k) for k in range(3)])[-3:], [[0], [0], [0]])
        self.answered(FULL + [("man", 7, 1)], ("without", 7), [0])

    def test_enough_are_left(self):
        self.answered(MANNED + [("in", 0, 10)], ("without", 0), [0])
        self.answered(MANNED + [("in", 0, 11)], ("without", 0), [1])

    def test_others_that_must_come_out_are_counted(self):
        self.answered(SWUM + [("flag", 2, 1)], ("without", 0), [19])
        self.answered(SWUM + [("flag", 2, 1)], ("without", 2), [10])

    def test_a_guard_who_is_away_makes_no_difference(self):
        self.assertEqual(run(AWAY + [("must",), ("without", 2), ("without", 0)])[-3:], [[10, 4], [10], [19]])

    def test_refusals(self):
        self.all_refused(SWUM, [("without", 3), ("without", 8), ("without", TOP)], -2)
        self.refused(EMPTY, ("without", 0), -2)
        self.refused(FULL, ("without", 8), -2)
        self.all_refused(PLACES, [("without", k) for k in range(3)], -6)
        self.refused(FULL, ("without", 7), -6)
        self.refused(AWAY + [("man", 2, 0)], ("without", 2), -6)

    def test_it_stays_on_duty(self):
        self.assertEqual(run(SWUM + [("without", 0), ("see", 0), ("must",)])[-2:], [[150, 60, 1, 0], [0, 0]])


class OverCoversGaps(CallTest):
    def test_over(self):
        told = run(SWUM + [("over", zones) for zones in range(8)])[-8:]
        self.assertEqual(told, [
            [0, 0, 0], [2, 3, 12], [1, 2, 7], [2, 3, 19], [1, 4, 10], [3, 7, 22], [2, 6, 17], [3, 7, 29],
        ])

    def test_over_swimmers_whom_nobody_watches_are_counted(self):
        self.answered(SWUM + [("flag", 0, 1)], ("over", 1), [0, 0, 12])
        self.answered(SWUM + [("flag", 0, 1)], ("over", 3), [1, 2, 19])
        self.answered(AWAY, ("over", 4), [0, 0, 10])

    def test_over_names_one_that_is_not_there(self):
        self.answered(EMPTY, ("over", 0), [0, 0, 0])
        self.all_refused(EMPTY, [("over", 1), ("over", 2), ("over", TOP)], -22)
        self.answered(SWUM, ("over", 7), [3, 7, 29])
        self.all_refused(SWUM, [("over", zones) for zones in (8, 9, 15, 16, 32, 2 ** 31, TOP - 7, TOP)], -22)
        self.answered(FULL, ("over", 31), [0, 0, 0])
        self.answered(FULL + [("man", k, 1) for k in range(8)], ("over", 31), [8, 255, 0])
        self.all_refused(FULL, [("over", 32), ("over", 33), ("over", 63), ("over", TOP)], -22)

    def test_covers(self):
        self.assertEqual(run(SWUM + [("covers", k) for k in range(3)])[-3:], [[1, 1], [2, 3], [1, 4]])
        self.assertEqual(run(FULL + [("man", 7, 1), ("covers", 7), ("covers", 6)])[-2:], [[5, 31], [0, 0]])
        self.answered(EMPTY + [("tower", 0, 1), ("man", 0, 1)], ("covers", 0), [0, 0])

    def test_covers_with_its_last_metre(self):
        self.assertEqual(run(MANNED + [("rough", 1)] + [("covers", k) for k in range(3)])[-3:], [[1, 1], [0, 0], [0, 0]])
        self.answered(MANNED + [("rough", 16)], ("covers", 0), [1, 1])
        self.answered(MANNED + [("rough", 17)], ("covers", 0), [0, 0])

    def test_covers_none_there(self):
        self.all_refused(SWUM, [("covers", 3), ("covers", 8), ("covers", TOP)], -2)
        self.refused(EMPTY, ("covers", 0), -2)
        self.refused(FULL, ("covers", 8), -2)

    def test_gaps(self):
        self.answered(EMPTY, ("gaps",), [0, 0])
        self.answered(EMPTY + [("tower", 0, 1), ("man", 0, 1)], ("gaps",), [0, 0])
        self.answered(PLACES, ("gaps",), [3, 7])
        self.answered(FULL, ("gaps",), [5, 31])
        self.answered(SWUM, ("gaps",), [0, 0])
        self.answered(SWUM + [("flag", 1, 1)], ("gaps",), [1, 2])
        self.answered(AWAY, ("gaps",), [1, 4])
        self.answered(SWUM + [("rough", 1)], ("gaps",), [2, 6])
        self.answered(SWUM + [("rough", 17)], ("gaps",), [3, 7])

    def test_gaps_though_nobody_swims_there(self):
        self.answered(MANNED + [("flag", 0, 1)], ("gaps",), [1, 1])

    def test_no_guard_no_tower(self):
        for line in (MANNED + [("man", 1, 0)], MANNED + [("rescue", 200, 5)]):
            told = run(line + [("over", 3), ("covers", 1), ("gaps",)])[-3:]
            self.assertEqual(told, [[1, 1, 0], [0, 0], [1, 2]])

    def test_against_one_another(self):
        """Over one zone are just the towers that cover it; over several those of each; in a gap is no tower."""
        gaps = 0
        for seed in range(60):
            line = any_beach(Random(seed))
            told = run(line + [("covers", k) for k in range(8)] + [("over", zones) for zones in range(32)] + [("gaps",)]
                       + [("look", k) for k in range(5)])
            covers = [told[len(line) + k] for k in range(8)]
            over = told[len(line) + 8:-6]
            swim = [look[0] for look in told[-5:]]
            for zones in range(32):
                named = [k for k in range(5) if zones & 2 ** k]
                towers = as_bits(t for t in range(8) if covers[t][1] & zones)
                self.assertEqual(over[zones], [bin(towers).count("1"), towers, sum(swim[k] for k in named)])
            bare = [k for k in range(5) if over[2 ** k][0] == 0]
            self.assertEqual(told[-6], [len(bare), as_bits(bare)])
            for cover in covers:
                self.assertEqual(cover[0], bin(cover[1]).count("1"))
            gaps += 0 < len(bare) < 5
        self.assertGreater(gaps, 20)


def any_beach(rng):
    """Five zones and eight towers; some off duty, some guards away, some red flags, a sea that's rough or not."""
    line = [("start", 100, rng.randint(1, 9))]
    for zone in range(5):
        begin = rng.randint(0, 80)
        line.append(("zone", begin, begin + rng.randint(1, 20)))
    line += [("tower", rng.randint(0, 100), rng.randint(15, 60)) for tower in range(8)]
    line += [("man", k, 1) for k in range(8) if rng.random() < 0.7]
    line += [("in", k, n) for k in range(5) for n in (5, 3, 1)]
    line += [("rescue", rng.randint(0, 100), rng.randint(1, 9)) for rescue in range(rng.randrange(3))]
    line += [("minutes", rng.randint(1, 4)), ("rough", rng.choice([0, 5, 20, 40]))]
    return line + [("flag", k, 1) for k in range(5) if rng.random() < 0.2]


class AgainstOtherCalls(CallTest):
    def test_without_is_what_must_come_out_with_that_tower_off_duty(self):
        # In a sea that nobody reaches into, every tower may go off duty: as many must come out anyhow.
        differ = 0
        for seed in range(60):
            line = any_beach(Random(seed))
            rough = last(line + [("state",)])[3]
            for k in range(8):
                without, must = run(line + [("without", k), ("must",)])[-2:]
                off = run(line + [("rough", 100), ("man", k, 0), ("rough", rough), ("must",)])[-3:]
                if without == [-6]:
                    self.assertEqual(off[0], [-17])
                else:
                    self.assertEqual(off[2][0], without[0])
                    differ += without[0] > must[0]
                    refused = last(line + [("man", k, 0)]) == [-33]
                    self.assertEqual(refused, without[0] > must[0])
        self.assertGreater(differ, 40)

    def test_nearest_is_who_goes_to_the_rescue(self):
        found = set()
        for seed in range(40):
            rng = Random(seed)
            line = any_beach(rng)
            while True:
                x = rng.randint(0, 101)
                near, rescue = last(line + [("nearest", x)]), last(line + [("rescue", x, 240)])
                self.assertEqual(near, rescue[:2])
                found.add(near[0])
                if near == [-6]:
                    break
                line = line + [("rescue", min(x, 100), 240)]
        self.assertEqual(found, set(range(8)) | {-22, -6})


class Nearest(CallTest):
    def test_which_tower_and_how_far(self):
        self.assertEqual(run(SWUM + [("nearest", x) for x in (0, 150, 640, 660, 1000)])[-5:],
                         [[0, 150], [0, 0], [2, 10], [2, 10], [2, 350]])

    def test_like_near_the_least(self):
        self.assertEqual(run(SWUM + [("nearest", x) for x in (175, 176, 425, 426)])[-4:],
                         [[0, 25], [1, 24], [1, 225], [2, 224]])
        self.answered(FULL + [("man", 6, 1), ("man", 4, 1)], ("nearest", 500), [4, 100])

    def test_guards_away_and_towers_off_duty_are_not_near(self):
        self.answered(AWAY, ("nearest", 640), [1, 440])
        self.answered(AWAY + [("minutes", 19)], ("nearest", 640), [1, 440])
        self.answered(AWAY + [("minutes", 20)], ("nearest", 640), [2, 10])
        self.answered(PLACES + [("man", 2, 1)], ("nearest", 0), [2, 650])

    def test_reach_and_red_do_not_matter(self):
        self.answered(SWUM + [("rough", 100), ("flag", 0, 1)], ("nearest", 0), [0, 150])

    def test_refusals(self):
        self.all_refused(SWUM, [("nearest", 1001), ("nearest", TOP)], -22)
        self.answered([("start", 1, 1), ("tower", 0, 1), ("man", 0, 1)], ("nearest", 1), [0, 1])
        self.refused([("start", 1, 1), ("tower", 0, 1), ("man", 0, 1)], ("nearest", 2), -22)
        self.all_refused(PLACES, [("nearest", 0), ("nearest", 1000)], -6)
        self.refused(EMPTY, ("nearest", 0), -6)
        self.refused(PLACES + [("man", 0, 1), ("rescue", 0, 5)], ("nearest", 0), -6)
        # Both are due: no guard is there, and no such place.
        self.all_refused(PLACES, [("nearest", 1001), ("nearest", TOP)], -22)

    def test_nobody_goes_away(self):
        self.assertEqual(run(SWUM + [("nearest", 0), ("nearest", 0), ("see", 0)])[-2:], [[0, 150], [150, 60, 1, 0]])


class Reach(CallTest):
    def test_how_far_now(self):
        self.assertEqual(run(SWUM + [("reach", k) for k in range(3)])[-3:], [[60, 1], [100, 1], [50, 1]])
        line = [("start", 10000, 1), ("tower", 0, 10000), ("tower", 0, 1), ("tower", 0, 3), ("tower", 0, 199)]
        for rough, reaches in [
            (0, [10000, 1, 3, 199]), (1, [9900, 0, 2, 197]), (33, [6700, 0, 2, 133]), (34, [6600, 0, 1, 131]),
            (50, [5000, 0, 1, 99]), (99, [100, 0, 0, 1]), (100, [0, 0, 0, 0]),
        ]:
            told = run(line + [("rough", rough)] + [("reach", k) for k in range(4)])[-4:]
            self.assertEqual(told, [[reach, 0] for reach in reaches])

    def test_whether_the_guard_is_there(self):
        self.answered(PLACES, ("reach", 0), [60, 0])
        self.answered(PLACES + [("man", 0, 1)], ("reach", 0), [60, 1])
        self.assertEqual(run(AWAY + [("reach", 2), ("minutes", 19), ("reach", 2), ("minutes", 1), ("reach", 2)])[-5:],
                         [[50, 0], [49], [50, 0], [50], [50, 1]])
        self.answered(AWAY + [("minutes", 20), ("man", 0, 1), ("out", 2, 10), ("man", 2, 0)], ("reach", 2), [50, 0])
        self.answered(SWUM + [("rough", 100)], ("reach", 0), [0, 1])

    def test_none_there(self):
        self.all_refused(SWUM, [("reach", 3), ("reach", 8), ("reach", TOP)], -2)
        self.refused(EMPTY, ("reach", 0), -2)
        self.answered(FULL, ("reach", 7), [1000, 0])
        self.refused(FULL, ("reach", 8), -2)


class LookAndSee(CallTest):
    def test_look(self):
        self.assertEqual(run(SWUM + [("flag", 1, 1)] + [("look", k) for k in range(3)])[-3:],
                         [[12, 100, 200, 0], [7, 150, 300, 1], [10, 600, 700, 0]])
        self.answered(PLACES, ("look", 2), [0, 600, 700, 0])
        self.answered([("start", 10000, 1), ("zone", 0, 10000)], ("look", 0), [0, 0, 10000, 0])
        self.answered(SWUM + [("flag", 1, 1), ("flag", 1, 0), ("out", 1, 3)], ("look", 1), [4, 150, 300, 0])

    def test_look_after_clear(self):
        line = SWUM + [("rescue", 0, 5), ("clear",)] + [("look", k) for k in range(3)]
        self.assertEqual([look[0] for look in run(line)[-3:]], [3, 7, 10])

    def test_look_none_there(self):
        self.all_refused(SWUM, [("look", 3), ("look", 5), ("look", TOP)], -2)
        self.refused(EMPTY, ("look", 0), -2)
        self.answered(FULL, ("look", 4), [0, 0, 500, 0])
        self.refused(FULL, ("look", 5), -2)

    def test_see(self):
        self.assertEqual(run(AWAY + [("see", k) for k in range(3)])[-3:],
                         [[150, 60, 1, 0], [200, 100, 1, 0], [650, 50, 1, 20]])
        self.answered(PLACES, ("see", 1), [200, 100, 0, 0])

    def test_see_tells_the_reach_in_a_calm_sea(self):
        self.answered(AWAY + [("rough", 50)], ("see", 0), [150, 60, 1, 0])

    def test_see_for_how_many_minutes_yet(self):
        line = AWAY + [("minutes", 1), ("see", 2), ("minutes", 18), ("see", 2), ("minutes", 1), ("see", 2)]
        self.assertEqual([told[3] for told in run(line + [("minutes", 1), ("see", 2)])[-7::2]], [19, 1, 0, 0])
        self.answered(AWAY + [("man", 2, 0)], ("see", 2), [650, 50, 0, 20])

    def test_a_new_tower_is_not_away(self):
        for minutes in ([], [("minutes", 1)], [("minutes", 1440)]):
            self.answered(EMPTY + minutes + [("tower", 5, 6)], ("see", 0), [5, 6, 0, 0])

    def test_see_a_rescue_beyond_the_last_minute(self):
        line = MANNED + [("minutes", 1440)] * 69 + [("minutes", 640), ("rescue", 0, 240)]
        self.answered(line, ("see", 0), [150, 60, 1, 240])

    def test_see_none_there(self):
        self.all_refused(SWUM, [("see", 3), ("see", 8), ("see", TOP)], -2)
        self.refused(EMPTY, ("see", 0), -2)
        self.answered(FULL, ("see", 7), [700, 1000, 0, 0])
        self.refused(FULL, ("see", 8), -2)


class Return(CallTest):
    def test_how_many_minutes_early(self):
        self.answered(AWAY, ("return", 2), [20])
        self.answered(AWAY + [("minutes", 1)], ("return", 2), [19])
        self.answered(AWAY + [("minutes", 19)], ("return", 2), [1])
        self.answered(SWUM + [("rescue", 0, 240)], ("return", 0), [240])

    def test_the_guard_is_there_from_now_on(self):
        line = AWAY + [("minutes", 5), ("return", 2), ("see", 2), ("reach", 2), ("must",), ("rescue", 640, 7)]
        self.assertEqual(run(line)[-5:], [[15], [650, 50, 1, 0], [50, 1], [0, 0], [2, 10, 10]])
        self.assertEqual(run(AWAY + [("return", 2), ("minutes", 3), ("reach", 2)])[-1], [50, 1])

    def test_others_stay_away(self):
        line = AWAY + [("rescue", 0, 9), ("return", 2)] + [("see", k) for k in range(3)]
        self.assertEqual([told[3] for told in run(line)[-3:]], [9, 0, 0])

    def test_off_duty_a_guard_may_be_away_too(self):
        line = AWAY + [("man", 2, 0), ("return", 2), ("see", 2), ("reach", 2), ("return", 2)]
        self.assertEqual(run(line)[-4:], [[20], [650, 50, 0, 0], [50, 0], [-17]])

    def test_the_rescue_still_counts(self):
        self.answered(AWAY + [("return", 2)], ("sums",), [29, 29, 0, 1])

    def test_refusals(self):
        self.all_refused(AWAY, [("return", 3), ("return", 8), ("return", TOP)], -2)
        self.refused(EMPTY, ("return", 0), -2)
        self.refused(FULL, ("return", 8), -2)
        self.refused(FULL, ("return", 7), -17)
        self.all_refused(PLACES, [("return", k) for k in range(3)], -17)
        self.all_refused(AWAY, [("return", 0), ("return", 1)], -17)
        self.refused(AWAY + [("minutes", 20)], ("return", 2), -17)
        self.refused(AWAY + [("minutes", 21)], ("return", 2), -17)
        self.refused(AWAY + [("return", 2)], ("return", 2), -17)


class SumsAndState(CallTest):
    def test_sums(self):
        self.answered(EMPTY, ("sums",), [0, 0, 0, 0])
        self.answered(SWUM, ("sums",), [29, 29, 0, 0])
        self.answered(SWUM + [("out", 0, 5), ("out", 2, 1)], ("sums",), [29, 23, 6, 0])
        self.answered(SWUM + [("out", 0, 5), ("in", 0, 2)], ("sums",), [31, 26, 5, 0])
        self.answered(AWAY, ("sums",), [29, 29, 0, 1])
        self.answered(AWAY + [("clear",)], ("sums",), [29, 19, 10, 1])
        self.answered(AWAY + [("rescue", 0, 1), ("minutes", 1), ("rescue", 0, 1)], ("sums",), [29, 29, 0, 3])

    def test_sums_refused_ones_do_not_count(self):
        line = SWUM + [("in", 0, 2), ("out", 0, 13), ("clear",), ("rescue", 0, 0), ("rescue", 1001, 1)]
        self.answered(line, ("sums",), [29, 29, 0, 0])

    def test_each_swimmer_is_in_the_water_or_came_out(self):
        changes = [
            ("out", 0, 2), ("rescue", 0, 5), ("clear",), ("back",), ("back",), ("again",), ("again",), ("out", 1, 1),
            ("back",), ("back",), ("back",), ("back",), ("back",), ("again",), ("again",), ("in", 2, 1), ("flag", 2, 1),
            ("clear",), ("back",), ("again",), ("back",), ("out", 2, 4), ("again",), ("back",), ("start", 5, 5),
        ]
        swam = []
        for made in range(len(changes) + 1):
            told = run(SWUM + changes[:made] + [("sums",), ("safe",)] + [("look", k) for k in range(3)])
            went_in, swim, came_out = told[-5][:3]
            self.assertEqual(went_in, swim + came_out)
            self.assertEqual(told[-4][1], swim)
            self.assertEqual(sum(look[0] for look in told[-3:] if look != [-2]), swim)
            swam.append(tuple(told[-5][:3]))
        self.assertEqual(swam, [
            (29, 29, 0), (29, 27, 2), (29, 27, 2), (29, 20, 9), (29, 27, 2), (29, 27, 2), (29, 27, 2), (29, 20, 9),
            (29, 19, 10), (29, 20, 9), (29, 27, 2), (29, 27, 2), (29, 29, 0), (19, 19, 0), (29, 29, 0), (29, 27, 2),
            (29, 27, 2), (29, 27, 2), (29, 17, 12), (29, 27, 2), (29, 17, 12), (29, 27, 2), (29, 23, 6), (29, 23, 6),
            (29, 27, 2), (0, 0, 0),
        ])

    def test_state(self):
        self.answered([("start", 1, 1)], ("state",), [0, 0, 0, 0, 0, 0])
        self.answered(PLACES, ("state",), [0, 3, 3, 0, 6, 0])
        self.answered(PLACES + [("zone", 0, 1)], ("state",), [0, 4, 3, 0, 7, 0])
        self.answered(PLACES + [("tower", 0, 1)], ("state",), [0, 3, 4, 0, 7, 0])
        self.answered(AWAY + [("rough", 40)], ("state",), [30, 3, 3, 40, 15, 0])
        self.answered(AWAY + [("rough", 40), ("back",), ("back",)], ("state",), [30, 3, 3, 0, 13, 2])
        self.answered(FULL + [("rough", 100)], ("state",), [0, 5, 8, 100, 14, 0])
        self.answered(SWUM + [("minutes", 1440)] * 69 + [("minutes", 640)], ("state",), [100000, 3, 3, 0, 30, 0])

    def test_asking_changes_nothing(self):
        asked = LOOKS + [("passes", 10, 1, 1), ("lane", 1, 1, 1, 0), ("passes", 10, 0, 1), ("lane", 1, 1, 1, 1)]
        for line in (EMPTY, MANNED, SWUM, AWAY, AWAY + [("rough", 5), ("back",), ("back",)]):
            self.assertEqual(run(line + asked + PROBES)[len(line) + len(asked):], probed(tuple(line)))


if __name__ == "__main__":
    unittest.main()
