"""The calls 0 to 14, each: what it answers, each refusal at its edges, which of two is told, and that a refusal changes nothing."""

import unittest

from beachkept.asks import be_room
from beachkept.changes import be_in, be_man, be_tower, be_zone
from beachkept.shore import Beach
from tests.reading import AWAY, LOOKS, MANNED, PLACES, PROBES, SWUM, TOP, CallTest, last, run


class Start(CallTest):
    def test_edges(self):
        for call in [("start", 1, 1), ("start", 10000, 100), ("start", 1, 100), ("start", 10000, 1)]:
            self.answered([], call, [0])
            self.answered(AWAY, call, [0])

    def test_refused_as_first_call(self):
        for length, each in [(0, 1), (1, 0), (10001, 1), (1, 101), (TOP, 100), (10000, TOP), (0, 0), (TOP, TOP)]:
            self.answered([], ("start", length, each), [-22])
            self.assertEqual(run([("start", length, each), ("start", 5, 5), ("safe",)]), [[-22], [0], [1, 0]])

    def test_refused_again(self):
        calls = [("start", 0, 10), ("start", 10001, 10), ("start", TOP, 10)]
        self.all_refused(AWAY, calls + [("start", 1000, 0), ("start", 1000, 101), ("start", 1000, TOP)], -22)

    def test_again_is_as_at_first(self):
        for line in (PLACES, MANNED, SWUM, AWAY, AWAY + [("rough", 50), ("flag", 0, 1)]):
            begun = [("start", 700, 3)]
            self.assertEqual(run(line + begun + PROBES)[len(line):], run(begun + PROBES))

    def test_again_zones_towers_sea_and_minute_are_as_at_first(self):
        line = AWAY + [("rough", 90), ("start", 1000, 5), ("few",), ("man", 0, 1), ("flag", 0, 1), ("zone", 0, 10)]
        line += [("tower", 5, 5), ("man", 0, 1), ("room", 0), ("minutes", 1)]
        self.assertEqual(run(line)[-9:], [[0], [0, 0], [-2], [-2], [0], [0], [1], [5], [1]])

    def test_again_nobody_ever_went_in_and_no_rescue_was(self):
        self.answered(FULL_HOUSE + [("start", 10, 1)] + ONE_PLACE, ("in", 0, 1), [1])
        rescued = ONE_GUARD + [("rescue", 0, 1), ("minutes", 1)] * 480
        again = [("start", 10, 1)] + ONE_PLACE + [("rescue", 0, 1)]
        self.answered(rescued, ("rescue", 0, 1), [0, 0, 0])
        self.assertEqual(last(rescued + again), [0, 0, 0])


class ZonesAndTowers(CallTest):
    def test_zone_numbers(self):
        line = [("start", 10, 1)] + [("zone", 0, 10), ("zone", 9, 10), ("zone", 0, 1), ("zone", 0, 10), ("zone", 3, 4)]
        self.assertEqual(run(line), [[0], [0], [1], [2], [3], [4]])

    def test_zone_ends(self):
        line = [("start", 10, 1)]
        self.answered(line, ("zone", 0, 10), [0])
        self.answered(line, ("zone", 9, 10), [0])
        calls = [("zone", 0, 11), ("zone", 5, 5), ("zone", 6, 5), ("zone", 0, 0), ("zone", 10, 10), ("zone", 10, 11)]
        self.all_refused(line, calls + [("zone", 0, TOP), ("zone", TOP, TOP), ("zone", TOP, 5)], -22)

    def test_zones_are_at_most_five(self):
        four = [("start", 10, 1)] + [("zone", 0, 10)] * 4
        self.answered(four, ("zone", 0, 10), [4])
        self.refused(four + [("zone", 0, 10)], ("zone", 0, 10), -28)
        self.refused(four + [("zone", 0, 10)], ("zone", 0, 11), -22)
        self.refused(four + [("zone", 0, 10)], ("zone", 4, 4), -22)

    def test_tower_numbers(self):
        line = [("start", 10, 1)] + [("tower", at, 1) for at in (0, 10, 5, 5, 5, 1, 2, 3)]
        self.assertEqual(run(line), [[0]] + [[k] for k in range(8)])

    def test_tower_edges(self):
        line = [("start", 10, 1)]
        for call in [("tower", 0, 1), ("tower", 10, 1), ("tower", 0, 10000)]:
            self.answered(line, call, [0])
        calls = [("tower", 11, 1), ("tower", TOP, 1), ("tower", 0, 0), ("tower", 0, 10001), ("tower", 0, TOP)]
        self.all_refused(line, calls, -22)

    def test_towers_are_at_most_eight(self):
        seven = [("start", 10, 1)] + [("tower", 0, 1)] * 7
        self.answered(seven, ("tower", 0, 1), [7])
        self.refused(seven + [("tower", 0, 1)], ("tower", 0, 1), -28)
        self.refused(seven + [("tower", 0, 1)], ("tower", 11, 1), -22)
        self.refused(seven + [("tower", 0, 1)], ("tower", 0, 0), -22)


class Man(CallTest):
    def test_how_many_are_on_duty(self):
        line = PLACES + [("man", 2, 1), ("man", 0, 1), ("man", 2, 0), ("man", 1, 1), ("man", 1, 0), ("man", 0, 0)]
        self.assertEqual(run(line)[-6:], [[1], [2], [1], [2], [1], [0]])

    def test_away_counts_as_on_duty(self):
        self.answered(AWAY + [("out", 0, 12), ("man", 0, 0)], ("man", 0, 1), [3])

    def test_none_there(self):
        calls = [("man", k, on) for k in (3, 8, TOP) for on in (0, 1, 2, TOP)]
        self.all_refused(MANNED, calls, -2)
        self.refused([("start", 10, 1)], ("man", 0, 1), -2)

    def test_on_above_one(self):
        self.all_refused(PLACES, [("man", 2, 2), ("man", 0, TOP)], -22)
        self.all_refused(SWUM, [("man", 0, 2), ("man", 2, TOP)], -22)

    def test_so_already(self):
        self.all_refused(PLACES, [("man", k, 0) for k in range(3)], -17)
        self.all_refused(SWUM, [("man", k, 1) for k in range(3)], -17)

    def test_not_off_duty_if_more_must_come_out(self):
        self.all_refused(SWUM, [("man", k, 0) for k in range(3)], -33)
        fewer = MANNED + [("in", 0, 10)]
        self.answered(fewer, ("man", 0, 0), [2])
        self.answered(fewer, ("man", 1, 0), [2])
        self.refused(MANNED + [("in", 0, 11)], ("man", 0, 0), -33)
        self.refused(fewer + [("man", 0, 0)], ("man", 1, 0), -33)

    def test_off_duty_if_as_many_must_come_out_anyhow(self):
        self.answered(SWUM + [("flag", 2, 1)], ("man", 2, 0), [2])
        self.answered(AWAY, ("man", 2, 0), [2])
        self.answered(SWUM + [("rough", 100)], ("man", 0, 0), [2])


class RedAndRough(CallTest):
    def test_red_tells_how_many_must_come_out(self):
        line = SWUM + [("flag", 0, 1), ("flag", 2, 1), ("flag", 0, 0), ("flag", 1, 1), ("flag", 2, 0), ("flag", 1, 0)]
        self.assertEqual(run(line)[-6:], [[12], [22], [10], [17], [7], [0]])

    def test_red_refusals(self):
        self.all_refused(SWUM, [("flag", k, red) for k in (3, 5, TOP) for red in (0, 1, 2, TOP)], -2)
        self.all_refused(SWUM, [("flag", 2, 2), ("flag", 0, TOP)], -22)
        self.all_refused(SWUM, [("flag", k, 0) for k in range(3)], -17)
        self.all_refused(SWUM + [("flag", 1, 1)], [("flag", 1, 1)], -17)
        self.refused([("start", 10, 1)], ("flag", 0, 1), -2)

    def test_rough_tells_how_many_must_come_out(self):
        line = SWUM + [("rough", p) for p in (1, 0, 0, 2, 16, 17, 100, 0)]
        # By 1 in 100 towers 1 and 2 lack a metre; tower 0 reaches 50 metres up to 16 in 100 (60 * 84 // 100).
        self.assertEqual(run(line)[-8:], [[19], [0], [0], [19], [19], [29], [29], [0]])

    def test_reach_is_rounded_down(self):
        line = [("start", 100, 1), ("zone", 0, 2), ("tower", 0, 3), ("man", 0, 1), ("in", 0, 1)]
        self.assertEqual(run(line + [("rough", 33), ("rough", 34)])[-2:], [[0], [1]])

    def test_both_ends_are_within_reach_in_a_calm_sea(self):
        for at, reach in [(200, 100), (100, 100), (300, 200), (0, 200), (150, 50), (1000, 900)]:
            line = [("start", 1000, 10), ("zone", 100, 200)]
            self.answered(line + [("tower", at, reach), ("man", 0, 1)], ("room", 0), [10])
            self.answered(line + [("tower", at, reach - 1), ("man", 0, 1)], ("room", 0), [0])
        line = [("start", 10000, 10), ("zone", 0, 1)]
        self.answered(line + [("tower", 10000, 10000), ("man", 0, 1)], ("room", 0), [10])
        self.answered(line + [("tower", 10000, 9999), ("man", 0, 1)], ("room", 0), [0])

    def test_rough_edges(self):
        self.answered(MANNED, ("rough", 100), [0])
        self.all_refused(SWUM, [("rough", 101), ("rough", TOP)], -22)


ONE_PLACE = [("zone", 0, 10), ("tower", 0, 10), ("man", 0, 1)]
ONE_GUARD = [("start", 10, 100)] + ONE_PLACE
EIGHT_GUARDS = [("start", 10, 100), ("zone", 0, 10)] + [("tower", 0, 10)] * 8 + [("man", k, 1) for k in range(8)]
# 19,999 went in, 799 swim.
NEARLY_FULL_HOUSE = EIGHT_GUARDS + [("in", 0, 800), ("out", 0, 800)] * 24 + [("in", 0, 799)]
FULL_HOUSE = EIGHT_GUARDS + [("in", 0, 800), ("out", 0, 800)] * 24 + [("in", 0, 800), ("out", 0, 100)]


class InAndOut(CallTest):
    def test_in_and_out_tell_how_many_swim_in_that_zone(self):
        line = MANNED + [("in", 0, 3), ("in", 1, 4), ("in", 0, 5), ("out", 0, 1), ("out", 1, 4), ("out", 0, 7)]
        self.assertEqual(run(line)[-6:], [[3], [4], [8], [7], [0], [0]])

    def test_none_there(self):
        for word in ("in", "out"):
            self.all_refused(SWUM, [(word, k, n) for k in (3, 5, TOP) for n in (0, 1, 2000, TOP)], -2)
            self.refused([("start", 10, 1)], (word, 0, 1), -2)

    def test_nobody(self):
        for word in ("in", "out"):
            self.all_refused(SWUM, [(word, k, 0) for k in range(3)], -22)
            self.refused(SWUM + [("flag", 0, 1)], (word, 0, 0), -22)
            self.refused(FULL_HOUSE, (word, 0, 0), -22)

    def test_in_only_as_many_as_there_is_room_for(self):
        self.answered(MANNED, ("in", 0, 20), [20])
        self.refused(MANNED, ("in", 0, 21), -33)
        self.answered(SWUM, ("in", 0, 1), [13])
        self.answered(SWUM, ("in", 1, 1), [8])
        self.all_refused(SWUM, [("in", 0, 2), ("in", 1, 2), ("in", 2, 1), ("in", 0, TOP)], -33)
        self.all_refused(SWUM + [("in", 0, 1)], [("in", 0, 1), ("in", 1, 1)], -33)

    def test_nobody_goes_in_where_nobody_watches_or_not_all_are_watched(self):
        self.all_refused(PLACES, [("in", k, 1) for k in range(3)], -33)
        self.refused(MANNED + [("flag", 0, 1)], ("in", 0, 1), -33)
        self.refused(SWUM + [("flag", 2, 1)], ("in", 0, 1), -33)

    def test_twenty_thousand_ever_went_in(self):
        self.answered(NEARLY_FULL_HOUSE, ("in", 0, 1), [800])
        self.refused(NEARLY_FULL_HOUSE + [("out", 0, 1)], ("in", 0, 2), -28)
        self.answered(NEARLY_FULL_HOUSE + [("out", 0, 1), ("in", 0, 2)], ("in", 0, 1), [799])
        self.all_refused(FULL_HOUSE, [("in", 0, 1), ("in", 0, 100)], -28)

    def test_room_is_told_ahead_of_twenty_thousand(self):
        self.refused(NEARLY_FULL_HOUSE, ("in", 0, 2), -33)
        self.all_refused(FULL_HOUSE, [("in", 0, 101), ("in", 0, TOP)], -33)

    def test_cleared_ones_have_gone_in(self):
        cleared = EIGHT_GUARDS + [("in", 0, 800), ("rough", 100), ("clear",), ("rough", 0)] * 25
        self.refused(cleared, ("in", 0, 1), -28)

    def test_out_only_as_many_as_swim_there(self):
        self.answered(SWUM, ("out", 0, 12), [0])
        self.all_refused(SWUM, [("out", 0, 13), ("out", 1, 8), ("out", 2, 11), ("out", 0, TOP)], -12)
        self.refused(MANNED, ("out", 0, 1), -12)

    def test_out_of_a_zone_under_red(self):
        self.answered(SWUM + [("flag", 0, 1)], ("out", 0, 5), [7])


class Minutes(CallTest):
    def test_which_minute_it_is(self):
        self.assertEqual(run([("start", 1, 1)] + [("minutes", n) for n in (1, 1440, 59)])[1:], [[1], [1441], [1500]])

    def test_edges(self):
        self.all_refused(AWAY, [("minutes", 0), ("minutes", 1441), ("minutes", TOP)], -22)

    def test_the_last_minute(self):
        late = SWUM + [("minutes", 1440)] * 69  # 99,360
        self.answered(late, ("minutes", 640), [100000])
        self.all_refused(late, [("minutes", 641), ("minutes", 1440)], -75)
        last_minute = late + [("minutes", 640)]
        self.refused(last_minute, ("minutes", 1), -75)
        self.all_refused(last_minute, [("minutes", 0), ("minutes", 1441), ("minutes", TOP)], -22)

    def test_a_rescue_may_go_on_behind_the_last_minute(self):
        self.answered(MANNED + [("minutes", 1440)] * 69 + [("minutes", 640)], ("rescue", 0, 240), [0, 150, 0])


class Rescue(CallTest):
    def test_which_tower_how_far_how_many_must_come_out(self):
        self.answered(SWUM, ("rescue", 0, 1), [0, 150, 9])
        self.answered(SWUM, ("rescue", 1000, 240), [2, 350, 10])
        self.answered(SWUM, ("rescue", 200, 5), [1, 0, 9])
        self.answered(MANNED, ("rescue", 650, 5), [2, 0, 0])

    def test_like_near_the_least(self):
        self.answered(SWUM, ("rescue", 175, 5), [0, 25, 9])
        self.answered(SWUM, ("rescue", 176, 5), [1, 24, 9])
        self.answered(SWUM, ("rescue", 425, 5), [1, 225, 9])

    def test_away_guards_and_those_off_duty_are_not_near(self):
        line = SWUM + [("rescue", 150, 5)]
        self.assertEqual(run(line + [("rescue", 150, 5), ("rescue", 150, 5), ("rescue", 150, 5)])[-3:],
                         [[1, 50, 19], [2, 500, 29], [-6]])
        self.answered(PLACES + [("man", 2, 1)], ("rescue", 150, 5), [2, 500, 0])

    def test_reach_and_red_do_not_matter(self):
        self.answered(SWUM + [("rough", 100), ("flag", 0, 1)], ("rescue", 0, 1), [0, 150, 29])

    def test_the_guard_is_back_after_so_many_minutes(self):
        self.assertEqual(run(AWAY + [("safe",), ("minutes", 19), ("safe",), ("minutes", 1), ("safe",)])[-5:],
                         [[0, 29], [49], [0, 29], [50], [1, 29]])
        self.refused(ONE_GUARD + [("rescue", 0, 1)], ("rescue", 0, 1), -6)
        self.answered(ONE_GUARD + [("rescue", 0, 1), ("minutes", 1)], ("rescue", 0, 1), [0, 0, 0])

    def test_off_duty_and_on_again_does_not_bring_the_guard_back(self):
        self.refused(ONE_GUARD + [("rescue", 0, 9), ("man", 0, 0), ("man", 0, 1)], ("rescue", 0, 1), -6)

    def test_edges(self):
        self.answered(SWUM, ("rescue", 1000, 1), [2, 350, 10])
        self.answered(SWUM, ("rescue", 0, 240), [0, 150, 9])
        calls = [("rescue", 1001, 1), ("rescue", TOP, 1), ("rescue", 0, 0), ("rescue", 0, 241), ("rescue", 0, TOP)]
        self.all_refused(SWUM, calls, -22)
        self.all_refused(PLACES, calls, -22)

    def test_no_guard_is_there(self):
        self.all_refused(PLACES, [("rescue", 0, 1), ("rescue", 1000, 240)], -6)
        self.refused([("start", 10, 1)], ("rescue", 0, 1), -6)


class Clear(CallTest):
    def test_nobody_must_come_out(self):
        self.refused([("start", 10, 1)], ("clear",), -6)
        self.refused(MANNED, ("clear",), -6)
        self.refused(SWUM, ("clear",), -6)
        self.refused(AWAY + [("clear",)], ("clear",), -6)

    def test_zone_by_zone_rising(self):
        # Without tower 1 ten may stay in zone 0 and none in zone 1; without tower 0 ten in both, so zone 0 goes first.
        line = SWUM + [("rescue", 200, 5), ("clear",), ("out", 0, 10), ("out", 2, 10), ("safe",)]
        self.assertEqual(run(line)[-4:], [[9], [0], [0], [1, 0]])
        line = SWUM + [("rescue", 0, 5), ("clear",), ("out", 0, 3), ("out", 1, 7), ("safe",)]
        self.assertEqual(run(line)[-4:], [[9], [0], [0], [1, 10]])

    def test_all_come_out(self):
        line = SWUM + [("rough", 100), ("clear",), ("safe",), ("must",)]
        self.assertEqual(run(line)[-3:], [[29], [1, 0], [0, 0]])


class Asks(CallTest):
    def test_safe(self):
        self.answered([("start", 10, 1)], ("safe",), [1, 0])
        self.answered(SWUM, ("safe",), [1, 29])
        self.answered(SWUM + [("flag", 1, 1)], ("safe",), [0, 29])
        self.answered(MANNED + [("flag", 1, 1)], ("safe",), [1, 0])

    def test_must_tells_the_least_set(self):
        self.answered([("start", 10, 1)], ("must",), [0, 0])
        self.answered(SWUM, ("must",), [0, 0])
        self.answered(SWUM + [("flag", 0, 1)], ("must",), [12, 1])
        self.answered(SWUM + [("flag", 1, 1)], ("must",), [7, 2])
        self.answered(SWUM + [("rescue", 0, 5)], ("must",), [9, 3])
        self.answered(SWUM + [("rough", 100)], ("must",), [29, 7])
        # Nobody swims in zone 1, so it would make no difference, and is left out of the least set.
        self.answered(SWUM + [("out", 1, 7), ("flag", 0, 1), ("flag", 2, 1)], ("must",), [22, 5])

    def test_room(self):
        self.assertEqual(run(MANNED + [("room", 0), ("room", 1), ("room", 2)])[-3:], [[20], [10], [10]])
        self.assertEqual(run(SWUM + [("room", 0), ("room", 1), ("room", 2)])[-3:], [[1], [1], [0]])
        self.assertEqual(run(SWUM + [("flag", 1, 1), ("room", 0), ("room", 2)])[-2:], [[0], [0]])
        self.answered(MANNED + [("flag", 1, 1)], ("room", 1), [0])
        self.answered(MANNED + [("flag", 1, 1)], ("room", 0), [20])
        self.answered(EIGHT_GUARDS, ("room", 0), [800])

    def test_room_none_there(self):
        self.all_refused(SWUM, [("room", 3), ("room", 5), ("room", TOP)], -2)
        self.refused([("start", 10, 1)], ("room", 0), -2)

    def test_few(self):
        self.answered([("start", 10, 1)], ("few",), [0, 0])
        self.answered(PLACES, ("few",), [0, 0])
        self.answered(SWUM, ("few",), [3, 7])
        self.answered(MANNED + [("in", 0, 10)], ("few",), [1, 1])
        self.answered(MANNED + [("in", 0, 9), ("in", 1, 1)], ("few",), [1, 2])
        self.answered(MANNED + [("in", 0, 10), ("in", 2, 1)], ("few",), [2, 5])
        self.answered(EIGHT_GUARDS + [("in", 0, 301)], ("few",), [4, 15])

    def test_few_counts_towers_off_duty_but_no_guard_who_is_away(self):
        self.answered(MANNED + [("in", 0, 10), ("man", 0, 0)], ("few",), [1, 1])
        self.answered(MANNED + [("in", 0, 10), ("rescue", 0, 5)], ("few",), [1, 2])
        self.answered(MANNED + [("in", 0, 10), ("rescue", 0, 5), ("man", 0, 0)], ("few",), [1, 2])

    def test_few_there_is_no_such_set(self):
        for change in [("flag", 1, 1), ("rough", 1), ("rescue", 0, 5)]:
            self.refused(SWUM + [change], ("few",), -33)

    def test_asking_changes_nothing(self):
        for line in ([("start", 10, 1)], MANNED, SWUM, AWAY):
            after = run(line + LOOKS + PROBES)[len(line) + len(LOOKS):]
            self.assertEqual(after, run(line + PROBES)[len(line):])


class BeyondALine(CallTest):
    """Limits that the document names, but that no line of 1,000 calls comes to."""

    def test_a_thousand_in_a_zone(self):
        # Eight guards watch 800 at most, so guards who can watch more are made up.
        beach = Beach()
        beach.start_anew(10, 900)
        be_zone(beach, 0, 10)
        for k in range(2):
            be_tower(beach, 0, 10)
            be_man(beach, k, 1)
        self.assertEqual(be_room(beach, 0), [1000])
        self.assertEqual(be_in(beach, 0, 1001), [-33])
        self.assertEqual(be_in(beach, 0, 300), [300])
        self.assertEqual(be_room(beach, 0), [700])
        self.assertEqual(be_in(beach, 0, 701), [-33])
        self.assertEqual(be_in(beach, 0, 700), [1000])

    def test_a_thousand_rescues(self):
        line = ONE_GUARD + [("rescue", 0, 1), ("minutes", 1)] * 999
        self.answered(line, ("rescue", 0, 1), [0, 0, 0])
        thousand = line + [("rescue", 0, 1), ("minutes", 1)]
        self.all_refused(thousand, [("rescue", 0, 1), ("rescue", 10, 240)], -28)
        self.all_refused(thousand, [("rescue", 11, 1), ("rescue", 0, 0), ("rescue", 0, 241)], -22)
        self.refused(thousand + [("man", 0, 0)], ("rescue", 0, 1), -28)


if __name__ == "__main__":
    unittest.main()
