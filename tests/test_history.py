"""What can be taken back, and done again."""

import unittest
from random import Random

from tests.reading import AWAY, CHANGES, LOOKS, MANNED, PLACES, SHOWS, SWUM, TOP, CallTest, last, probed, run

BACK, AGAIN, STATE = ("back",), ("again",), ("state",)
TROUBLE = AWAY + [("flag", 1, 1), ("rough", 2), ("minutes", 3)]

# For each call that is a change, beaches on which it isn't refused.
EACH_CHANGE = [
    (PLACES[:1], ("zone", 0, 1000)), (AWAY, ("zone", 3, 4)), (TROUBLE, ("zone", 0, 1)),
    (PLACES[:1], ("tower", 0, 1)), (AWAY, ("tower", 1000, 10000)), (TROUBLE, ("tower", 5, 5)),
    (PLACES, ("man", 0, 1)), (MANNED, ("man", 2, 0)), (AWAY, ("man", 2, 0)),
    (SWUM, ("flag", 0, 1)), (AWAY, ("flag", 2, 1)), (TROUBLE, ("flag", 1, 0)),
    (MANNED, ("in", 0, 20)), (SWUM, ("in", 1, 1)),
    (SWUM, ("out", 0, 12)), (AWAY, ("out", 2, 3)), (TROUBLE, ("out", 1, 7)),
    (SWUM, ("rough", 100)), (AWAY, ("rough", 1)), (TROUBLE, ("rough", 0)),
    (PLACES[:1], ("minutes", 1)), (AWAY, ("minutes", 20)), (TROUBLE, ("minutes", 1440)),
    (SWUM, ("rescue", 0, 240)), (AWAY, ("rescue", 640, 1)), (TROUBLE, ("rescue", 1000, 9)),
    (AWAY, ("clear",)), (TROUBLE, ("clear",)), (SWUM + [("rough", 100)], ("clear",)),
    (AWAY, ("return", 2)), (TROUBLE, ("return", 2)), (AWAY + [("man", 2, 0)], ("return", 2)),
]


def shown(line):
    """All that shows after a line, without how many changes can be taken back or done again."""
    told = run(line + LOOKS)[len(line):]
    told[LOOKS.index(STATE)] = told[LOOKS.index(STATE)][:4]
    return told


def counts(line):
    return last(line + [STATE])[4:]


def changes_of(line):
    return len(line) - 1


class EachChange(CallTest):
    def test_every_call_that_is_a_change_is_here(self):
        self.assertEqual({call[0] for line, call in EACH_CHANGE}, set(CHANGES))

    def test_taken_back_and_done_again(self):
        for line, call in EACH_CHANGE:
            with self.subTest(call=call, line=line):
                before, made = changes_of(line), line + [call]
                self.assertEqual(counts(line), [before, 0])
                self.assertEqual(counts(made), [before + 1, 0])
                self.assertNotEqual(shown(made), shown(line))
                back = made + [BACK]
                self.assertEqual(last(back), [before])
                self.assertEqual(shown(back), shown(line))
                self.assertEqual(counts(back), [before, 1])
                again = back + [AGAIN]
                self.assertEqual(last(again), [0])
                self.assertEqual(shown(again), shown(made))
                self.assertEqual(counts(again), [before + 1, 0])
                self.assertEqual(shown(again + [BACK]), shown(line))
                self.assertEqual(shown(again + [BACK, AGAIN]), shown(made))

    def test_once_more_it_is_answered_the_same(self):
        for line, call in EACH_CHANGE:
            told = run(line + [call, BACK, call, BACK, AGAIN, BACK, call])
            self.assertEqual((told[len(line)], told[len(line)]), (told[len(line) + 2], told[-1]))

    def test_go_on_from_there(self):
        """What is changed after a change was taken back, or done again, doesn't reach into what is kept."""
        for line, call in EACH_CHANGE:
            self.assertEqual(shown(line + [call] + STEPS), shown(line + [call, BACK, AGAIN] + STEPS))
            self.assertEqual(shown(line + STEPS), shown(line + [call, BACK] + STEPS))
            stepped = line + [call] + STEPS
            taken = counts(stepped)[0] - changes_of(line) - 1
            self.assertEqual(shown(stepped + [BACK] * taken), shown(line + [call]))
            self.assertEqual(shown(stepped + [BACK] * (taken + 1)), shown(line))
            self.assertEqual(shown(stepped + [BACK] * (taken + 1) + [AGAIN]), shown(line + [call]))
            self.assertEqual(shown(stepped + [BACK] * (taken + 1) + [AGAIN] * (taken + 1)), shown(stepped))

    def test_the_same_once_more_is_a_change_too(self):
        for line, call in [(SWUM, ("rough", 0)), (SWUM + [("rough", 7)], ("rough", 7))]:
            self.assertEqual(counts(line + [call]), [changes_of(line) + 1, 0])
            self.assertEqual(counts(line + [call, BACK]), [changes_of(line), 1])
            self.assertEqual(counts(line + [BACK, ("rough", 0)])[1], 0)


# Each of the calls that are changes, of which some are refused, as it may be.
STEPS = [
    ("minutes", 2), ("rescue", 150, 9), ("flag", 0, 1), ("clear",), ("out", 0, 1), ("out", 2, 1), ("man", 1, 0),
    ("zone", 0, 9), ("tower", 1, 9), ("return", 0), ("flag", 0, 0), ("rough", 4), ("in", 0, 1), ("rough", 0),
]


class NoChange(CallTest):
    """A call that only asks, or is refused, is no change, and drops nothing that can be done again."""

    ASKS = SHOWS + [("safe",), ("must",), ("room", 0), ("few",), ("without", 0), ("over", 1), ("covers", 0),
                    ("nearest", 0), ("reach", 0), ("passes", 9, 1, 1), ("lane", 1, 1, 1, 0), ("gaps",)]
    REFUSED = [
        ("start", 0, 1), ("start", 1, 101), ("zone", 5, 5), ("tower", 0, 0), ("man", 9, 1), ("man", 0, 1),
        ("man", 0, 0), ("flag", 0, 2), ("flag", 0, 0), ("in", 0, 0), ("in", 0, TOP), ("out", 0, 900), ("rough", 101),
        ("minutes", 0), ("rescue", 0, 241), ("return", 0), ("return", 9), ("over", 8), ("look", 5), ("see", 8),
        ("nearest", 1001), ("passes", 1, 0, 1), ("lane", 1, 1, 0, 1), ("room", 5), ("without", 9), ("covers", 9),
    ]

    def test_in_between(self):
        line = AWAY + [("rough", 5), ("rough", 9), ("rough", 0), BACK, BACK]
        for call in self.ASKS + self.REFUSED:
            with self.subTest(call=call):
                told = run(line + [call, STATE, AGAIN, AGAIN, AGAIN, STATE])[len(line):]
                self.assertTrue(told[0][0] < 0 or call in self.ASKS)
                self.assertEqual(told[1:], [[30, 3, 3, 5, 15, 2], [1], [0], [-2], [30, 3, 3, 0, 17, 0]])

    def test_nothing_to_clear(self):
        line = SWUM + [("rough", 5), BACK]
        told = run(line + [("clear",), STATE, AGAIN])[len(line):]
        self.assertEqual(told, [[-6], [0, 3, 3, 0, 12, 1], [0]])

    def test_in_between_every_step(self):
        line = TROUBLE + [BACK] * 6 + [AGAIN] * 6
        spread = [call for made in line for call in [made] + [("safe",), ("zone", 9, 9), ("start", 0, 0)]]
        self.assertEqual(probed(tuple(line)), probed(tuple(spread)))


class Refused(CallTest):
    def test_nothing_to_take_back(self):
        for line in (PLACES[:1], PLACES[:3] + [BACK, BACK], PLACES[:1] + [("minutes", 1)] * 31 + [BACK] * 30):
            self.refused(line, BACK, -2)
        self.assertEqual(run(PLACES[:1] + [BACK, BACK, STATE, AGAIN]), [[0], [-2], [-2], [0] * 6, [-2]])
        line = PLACES[:3] + [BACK, BACK]
        self.assertEqual(run(line + [BACK, STATE, AGAIN, AGAIN, AGAIN])[-5:],
                         [[-2], [0, 0, 0, 0, 0, 2], [1], [0], [-2]])
        self.assertEqual(run(line + [BACK] + LOOKS)[len(line) + 1:], run(line + LOOKS)[len(line):])

    def test_nothing_to_do_again(self):
        for line in (PLACES[:1], PLACES, AWAY, AWAY + [BACK, ("rough", 1)], AWAY + [BACK, AGAIN]):
            self.assertEqual(last(line + [AGAIN]), [-2])
            self.assertEqual(run(line + [AGAIN] + LOOKS)[len(line) + 1:], run(line + LOOKS)[len(line):])
            self.assertEqual(run(line + [AGAIN] + [BACK, STATE] * 31)[len(line) + 1:],
                             run(line + [BACK, STATE] * 31)[len(line):])


class Thirty(CallTest):
    def minutes(self, changes):
        """After so many changes minute 1 + 2 + .. so many is the running one."""
        return [("start", 10, 1)] + [("minutes", n) for n in range(1, changes + 1)]

    def test_the_last_thirty(self):
        for changes in (1, 29, 30, 31, 32, 60, 100):
            kept = min(changes, 30)
            line = self.minutes(changes)
            self.assertEqual(counts(line), [kept, 0])
            told = run(line + [call for step in range(kept) for call in (BACK, STATE)] + [BACK, STATE])[len(line):]
            for step in range(kept):
                left = changes - step - 1
                self.assertEqual(told[2 * step], [kept - step - 1])
                minute = left * (left + 1) // 2
                self.assertEqual(told[2 * step + 1], [minute, 0, 0, 0, kept - step - 1, step + 1])
            left = changes - kept
            self.assertEqual(told[-2:], [[-2], [left * (left + 1) // 2, 0, 0, 0, 0, kept]])

    def test_all_thirty_are_done_again(self):
        for changes in (30, 31, 77):
            line = self.minutes(changes) + [BACK] * 30
            told = run(line + [call for step in range(30) for call in (AGAIN, STATE)] + [AGAIN, STATE])[len(line):]
            for step in range(30):
                made = changes - 29 + step
                self.assertEqual(told[2 * step], [29 - step])
                self.assertEqual(told[2 * step + 1], [made * (made + 1) // 2, 0, 0, 0, step + 1, 29 - step])
            self.assertEqual(told[-2:], [[-2], [changes * (changes + 1) // 2, 0, 0, 0, 30, 0]])

    def test_a_change_after_some_were_taken_back(self):
        for changes in (30, 31, 40):
            line = self.minutes(changes) + [BACK] * 10
            self.assertEqual(counts(line), [20, 10])
            line = line + [("rough", 5)]
            self.assertEqual(counts(line), [21, 0])
            self.assertEqual(last(line + [AGAIN]), [-2])
            self.assertEqual(counts(line + [("rough", 6)] * 9), [30, 0])
            self.assertEqual(counts(line + [("rough", 6)] * 10), [30, 0])
            left = changes - 10
            self.assertEqual(last(line + [BACK, STATE]), [left * (left + 1) // 2, 0, 0, 0, 20, 1])
            # The oldest that was kept is still the oldest, till thirty newer ones are there.
            first = changes - 30
            self.assertEqual(last(line + [BACK] * 21 + [STATE])[0], first * (first + 1) // 2)
            self.assertEqual(last(line + [("rough", 6)] * 9 + [BACK] * 30 + [STATE])[0], first * (first + 1) // 2)
            first += 1
            self.assertEqual(last(line + [("rough", 6)] * 10 + [BACK] * 30 + [STATE])[0], first * (first + 1) // 2)

    def test_a_change_after_all_were_taken_back(self):
        line = self.minutes(31) + [BACK] * 30 + [("minutes", 9)]
        self.assertEqual(run(line + [STATE, AGAIN, BACK, STATE, BACK])[len(line):],
                         [[10, 0, 0, 0, 1, 0], [-2], [0], [1, 0, 0, 0, 0, 1], [-2]])

    def test_again_and_again(self):
        line = self.minutes(35) + [BACK, AGAIN] * 40
        self.assertEqual(last(line + [STATE]), [630, 0, 0, 0, 30, 0])
        line = self.minutes(35) + ([BACK] * 30 + [AGAIN] * 30) * 8
        self.assertEqual(last(line + [STATE]), [630, 0, 0, 0, 30, 0])

    def test_every_part_of_a_beach_step_by_step(self):
        line = TROUBLE + STEPS
        told = run(line)
        made = [call for call, answer in zip(line, told) if answer[0] >= 0][1:]
        stand = [shown(line[:1] + made[:k]) for k in range(len(made) + 1)]
        self.assertGreater(len(made), 24)
        for taken in range(min(30, len(made)) + 1):
            self.assertEqual(shown(line + [BACK] * taken), stand[len(made) - taken])
            for again in range(taken + 1):
                self.assertEqual(shown(line + [BACK] * taken + [AGAIN] * again), stand[len(made) - taken + again])


class LimitsAreTakenBackToo(CallTest):
    def test_twenty_thousand_ever_went_in(self):
        eight = [("start", 10, 100), ("zone", 0, 10)] + [("tower", 0, 10)] * 8 + [("man", k, 1) for k in range(8)]
        line = eight + [("in", 0, 800), ("out", 0, 800)] * 24 + [("in", 0, 800), ("out", 0, 800)]
        self.assertEqual(run(line + [("in", 0, 1), BACK, BACK, ("in", 0, 800), ("out", 0, 1), ("in", 0, 1)])[-6:],
                         [[-28], [29], [28], [800], [799], [-28]])
        self.assertEqual(run(line + [BACK, BACK, ("sums",), AGAIN, ("sums",)])[-3:],
                         [[19200, 0, 19200, 0], [1], [20000, 800, 19200, 0]])

    def test_the_last_minute(self):
        line = [("start", 10, 1)] + [("minutes", 1440)] * 69 + [("minutes", 640)]
        self.assertEqual(run(line + [("minutes", 1), BACK, ("minutes", 641), ("minutes", 640), BACK, AGAIN, STATE])[-7:],
                         [[-75], [29], [-75], [100000], [29], [0], [100000, 0, 0, 0, 30, 0]])

    def test_five_zones_and_eight_towers(self):
        line = [("start", 10, 1)] + [("zone", 0, 10)] * 5 + [("tower", 0, 1)] * 8
        self.assertEqual(run(line + [("tower", 0, 1), BACK, ("tower", 1, 2), ("tower", 0, 1), ("see", 7)])[-5:],
                         [[-28], [12], [7], [-28], [1, 2, 0, 0]])
        zones = line[:6]
        self.assertEqual(run(zones + [("zone", 0, 1), BACK, ("zone", 1, 2), ("zone", 0, 1), ("look", 4)])[-5:],
                         [[-28], [4], [4], [-28], [0, 1, 2, 0]])
        self.assertEqual(run(zones + [BACK, ("look", 4), AGAIN, ("look", 4)])[-4:], [[4], [-2], [0], [0, 0, 10, 0]])

    def test_a_guard_is_away_again_once_the_minutes_are_taken_back(self):
        line = AWAY + [("minutes", 20), ("see", 2), BACK, ("see", 2), BACK, ("see", 2), AGAIN, ("see", 2)]
        self.assertEqual([told[-1] for told in run(line)[-7::2]], [0, 20, 0, 20])


class StartedAgain(CallTest):
    def test_nothing_can_be_taken_back_or_done_again(self):
        for line in (AWAY, AWAY + [BACK] * 3, [("start", 10, 1)] + [("minutes", 1)] * 40):
            for call in [("start", 1000, 10), ("start", 1, 1), ("start", 10000, 100)]:
                told = run(line + [call, STATE, BACK, AGAIN, STATE])[len(line):]
                self.assertEqual(told, [[0], [0] * 6, [-2], [-2], [0] * 6])
                self.assertEqual(probed(tuple(line + [call])), probed((call,)))

    def test_go_on_from_there(self):
        line = AWAY + [BACK, BACK, ("start", 50, 5), ("zone", 3, 7), ("minutes", 4), BACK]
        self.assertEqual(run(line + [STATE, AGAIN, BACK, BACK, BACK, STATE])[len(line):],
                         [[0, 1, 0, 0, 1, 1], [0], [1], [0], [-2], [0, 0, 0, 0, 0, 2]])

    def test_refused_all_stays(self):
        for line in (AWAY, AWAY + [BACK] * 3, AWAY + [BACK] * 14, [("start", 10, 1)] + [("minutes", 1)] * 40):
            self.all_refused(line, [("start", 0, 5), ("start", 10001, 5), ("start", 5, 0), ("start", 5, 101)], -22)
            self.all_refused(line, [("start", TOP, 5), ("start", 5, TOP), ("start", 0, 0), ("start", TOP, TOP)], -22)


class WhatStands(unittest.TestCase):
    """After any steps back and again, all is as if only the changes that stand had ever been made."""

    def any_step(self, rng):
        k, n, x = rng.randrange(6), rng.randint(1, 9), rng.randint(0, 1000)
        return rng.choice([
            BACK, BACK, BACK, BACK, AGAIN, AGAIN, AGAIN, AGAIN, ("man", k, rng.randrange(2)), ("man", k, 1),
            ("flag", k, rng.randrange(2)), ("flag", k, 0), ("in", k, n), ("in", k, 1), ("in", 0, n), ("out", k, n),
            ("rough", rng.choice([0, 0, 1, 20])), ("minutes", n), ("rescue", x, n), ("clear",), ("return", k),
            ("tower", x, 100 + n), ("zone", x // 2, x // 2 + n), ("safe",), ("start", 0, 0),
        ])

    def stands(self, line):
        fallen, past, future = [], [], []
        for call, told in zip(line[1:], run(line)[1:]):
            if told[0] < 0:
                continue
            if call == BACK:
                future.append(past.pop())
            elif call == AGAIN:
                past.append(future.pop())
            elif call[0] in CHANGES:
                past.append(call)
                future = []
            fallen, past = fallen + past[:-30], past[-30:]
        return line[:1] + fallen + past, [len(past), len(future)]

    def test_any_steps(self):
        full = 0
        for seed in range(80):
            rng = Random(seed)
            line = MANNED + [self.any_step(rng) for step in range(rng.choice([20, 100, 300]))]
            stand, kept = self.stands(line)
            self.assertEqual(shown(line), shown(stand), line)
            self.assertEqual(counts(line), kept)
            full += kept[0] + kept[1] == 30
        self.assertGreater(full, 20)


if __name__ == "__main__":
    unittest.main()
