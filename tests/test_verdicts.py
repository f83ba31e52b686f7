"""neverlate.verdicts: points 55 and 56."""

import unittest
from random import Random

from neverlate.errors import FullLoad, Undecided
from neverlate.horizons import compare_load
from neverlate.misses import first_miss
from neverlate.tasks import System
from neverlate.verdicts import is_never_late, verdict
from samples import engine_circle, lone, random_system


def undecided(system, horizon):
    """True if the first miss up to the horizon is undecided."""
    try:
        first_miss(system, horizon=horizon)
    except Undecided:
        return True
    return False


class Point55(unittest.TestCase):
    def test_at_the_first_horizon(self):
        miss = verdict(System([engine_circle()], table=[0, 1]))
        self.assertEqual((miss.instant, miss.start, miss.releases), (3, 0, [[(0, "b")]]))
        system = System([engine_circle()], table=[1])
        self.assertFalse(undecided(system, 16))
        self.assertIsNone(verdict(system))
        self.assertIs(is_never_late(system), True)

    def test_a_miss_at_a_later_horizon(self):
        system = System([lone("t", 11, 20, 10)], table=[1])
        self.assertTrue(undecided(system, 64))
        miss = verdict(system)
        self.assertEqual((miss.instant, miss.start), (120, 0))
        self.assertEqual(miss.releases, [[(10 * number, "k") for number in range(11)]])
        self.assertIs(is_never_late(system), False)

    def test_never_at_a_later_horizon(self):
        system = System([lone("t", 80, 80, 100)], table=[1])
        self.assertTrue(undecided(system, 64))
        self.assertIsNone(verdict(system))
        self.assertIs(is_never_late(system), True)

    def test_a_horizon_behind_128_and_behind_1000(self):
        system = System([lone("t", 399, 399, 400)], table=[1])
        self.assertEqual(compare_load(system), -1)
        self.assertTrue(undecided(system, 128))
        self.assertIsNone(verdict(system))
        # Up to 100 + 50 * n there are n + 1 jobs of 51 units; these are more than the slots from n = 50 on.
        system = System([lone("t", 51, 100, 50)], table=[1])
        self.assertTrue(undecided(system, 1000))
        miss = verdict(system)
        self.assertEqual((miss.instant, miss.start, len(miss.releases[0])), (2600, 0, 51))

    def test_a_full_load_that_is_decided(self):
        system = System([lone("t", 4, 4, 4)], table=[1])
        self.assertEqual(compare_load(system), 0)
        self.assertIsNone(verdict(system))
        system = System([lone("t", 4, 3, 4)], table=[1])
        self.assertEqual(verdict(system).instant, 3)

    def test_a_full_load_that_is_just_decided_at_128(self):
        # The horizon must be at least 42 + 42 + 1 + 42 = 127, then 128, then 129.
        for deadline, decided in ((42, True), (43, True), (44, False)):
            system = System([lone("t", 42, deadline, 42)], table=[1])
            self.assertEqual(compare_load(system), 0)
            self.assertTrue(undecided(system, 64))
            if decided:
                self.assertIsNone(verdict(system))
                self.assertIs(is_never_late(system), True)
            else:
                self.assert_full_load(system)

    def test_a_full_load_that_is_not_decided(self):
        self.assert_full_load(System([lone("t", 100, 100, 100)], table=[1]))
        self.assert_full_load(System([lone("t", 1000, 1000, 1000)], table=[1]))
        self.assert_full_load(System([lone("t", 1, 130)], table=[0]))

    def test_a_full_load_with_a_miss_up_to_128_and_behind(self):
        self.assertEqual(verdict(System([lone("t", 129, 128, 129)], table=[1])).instant, 128)
        self.assert_full_load(System([lone("t", 130, 129, 130)], table=[1]))

    def assert_full_load(self, system):
        self.assertEqual(compare_load(system), 0)
        for function in (verdict, is_never_late):
            with self.assertRaises(FullLoad) as caught:
                function(system)
            self.assertEqual(caught.exception.horizon, 128)

    def test_without_tasks(self):
        for table in ([0], [0, 0], [5]):
            self.assertIsNone(verdict(System([], table=table)))
            self.assertIs(is_never_late(System([], table=table)), True)


class Point56(unittest.TestCase):
    def test_a_load_of_1_is_always_a_miss(self):
        random = Random(58)
        seen = 0
        for _ in range(200):
            system = random_system(random, tasks=3)
            if compare_load(system) == 1:
                seen += 1
                self.assertIsNotNone(verdict(system))
                self.assertIs(is_never_late(system), False)
        self.assertGreater(seen, 50)

    def test_the_verdict_is_the_first_miss_of_a_great_horizon(self):
        random = Random(59)
        for _ in range(200):
            system = random_system(random, tasks=2)
            try:
                found = verdict(system)
            except FullLoad:
                self.assertEqual(compare_load(system), 0)
                continue
            expected = first_miss(system, horizon=500)
            self.assertEqual(found is None, expected is None)
            self.assertIs(is_never_late(system), found is None)
            if found is not None:
                self.assertEqual(vars(found), vars(expected))


if __name__ == "__main__":
    unittest.main()
