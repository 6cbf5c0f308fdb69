"""A search: how many passes, where each walks, and that nothing is left out."""

import unittest
from random import Random

from tests.reading import AWAY, SWUM, TOP, CallTest, run

BEGUN = [("start", 1, 1)]


class Passes(CallTest):
    def test_rounded_up(self):
        for wide, n, sight, passes in [
            (0, 1, 1, 0), (0, 100, 100, 0), (1, 1, 1, 1), (1, 100, 100, 1), (99, 10, 10, 1), (100, 10, 10, 1),
            (101, 10, 10, 2), (200, 10, 10, 2), (201, 10, 10, 3), (10000, 1, 1, 10000), (10000, 100, 100, 1),
            (9999, 100, 100, 1), (10000, 1, 100, 100), (10000, 100, 1, 100), (10000, 99, 100, 2), (7, 1, 3, 3),
            (10000, 7, 9, 159),
        ]:
            self.answered(BEGUN, ("passes", wide, n, sight), [passes])
            self.answered(AWAY, ("passes", wide, n, sight), [passes])

    def test_refusals(self):
        self.all_refused(SWUM, [("passes", wide, 1, 1) for wide in (10001, 2 ** 31, TOP)], -22)
        for wrong in (0, 101, TOP):
            self.all_refused(SWUM, [("passes", 10, wrong, 1), ("passes", 10, 1, wrong)], -22)
            self.all_refused(SWUM, [("passes", 0, wrong, 100), ("passes", 0, 100, wrong)], -22)
        self.all_refused(BEGUN, [("passes", 0, 0, 0), ("passes", TOP, TOP, TOP), ("passes", 10001, 100, 100)], -22)


class Lane(CallTest):
    def test_where_each_walks(self):
        for n, sight, turn, k, lane in [
            (1, 1, 0, 0, 1), (1, 1, 1, 0, 3), (3, 4, 0, 0, 4), (3, 4, 0, 1, 12), (3, 4, 0, 2, 20), (3, 4, 1, 0, 28),
            (3, 5, 2, 1, 75), (100, 100, 0, 99, 19900), (100, 1, 10000, 0, 2000001), (1, 100, 10000, 0, 2000100),
            (100, 100, 10000, 99, 200019900), (2, 1, 0, 1, 3),
        ]:
            self.answered(BEGUN, ("lane", n, sight, turn, k), [lane])
            self.answered(AWAY, ("lane", n, sight, turn, k), [lane])

    def test_refusals(self):
        for wrong in (0, 101, TOP):
            self.all_refused(SWUM, [("lane", wrong, 1, 0, 0), ("lane", 1, wrong, 0, 0)], -22)
        self.all_refused(SWUM, [("lane", 1, 1, turn, 0) for turn in (10001, 2 ** 31, TOP)], -22)
        self.all_refused(SWUM, [("lane", 3, 1, 0, k) for k in (3, 4, 100, TOP)], -22)
        self.all_refused(SWUM, [("lane", 1, 1, 0, 1), ("lane", 100, 100, 10000, 100), ("lane", 0, 0, 0, 0)], -22)
        self.refused(BEGUN, ("lane", TOP, TOP, TOP, TOP), -22)


class NothingLeftOut(unittest.TestCase):
    def seen(self, wide, n, sight):
        """How often each half metre is seen, of as many as are needed and of what lies behind."""
        passes = run(BEGUN + [("passes", wide, n, sight)])[-1][0]
        walked = [("lane", n, sight, turn, k) for turn in range(passes) for k in range(n)]
        seen = [0] * (2 * passes * n * sight + 2)
        for told in run(BEGUN + walked)[1:]:
            for half in range(told[0] - sight, told[0] + sight):
                seen[half] += 1
        return passes, seen

    def holds(self, wide, n, sight):
        passes, seen = self.seen(wide, n, sight)
        # Once each, up to the end of the last pass; and one pass fewer would leave something out.
        self.assertEqual(seen, [1] * (2 * passes * n * sight) + [0, 0], (wide, n, sight))
        self.assertGreaterEqual(passes * n * sight, wide)
        self.assertLess((passes - 1) * n * sight, max(wide, 1))

    def test_each_metre_is_seen(self):
        for wide in range(30):
            for n in range(1, 5):
                for sight in range(1, 6):
                    self.holds(wide, n, sight)

    def test_each_metre_of_wide_stretches_is_seen(self):
        for wide, n, sight in [(10000, 1, 1), (10000, 100, 100), (10000, 100, 1), (10000, 1, 100), (9999, 99, 97)]:
            self.holds(wide, n, sight)
        rng = Random(5)
        for time in range(20):
            self.holds(rng.randint(0, 3000), rng.randint(1, 100), rng.randint(1, 100))


if __name__ == "__main__":
    unittest.main()
