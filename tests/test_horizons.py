"""neverlate.horizons: points 31, 49 and 50."""

import unittest
from random import Random

from neverlate.circuits import share
from neverlate.demand import system_demands
from neverlate.horizons import compare_load, decisive_horizon, system_bound
from neverlate.misses import first_overfull
from neverlate.ratio import compare_ratios, make_ratio, sum_ratios
from neverlate.tasks import System
from neverlate.weights import linear_bound
from samples import engine_circle, lone, random_system


def slow_horizon(system):
    """Point 50, word by word; the greatest integer is looked for one by one."""
    top, extra, bottom = system_bound(system)
    slots, units = len(system.table), sum(system.table)
    gain = units * bottom - top * slots
    if gain <= 0:
        return None
    loss = extra * slots + units * bottom * (slots - 1)
    if loss == 0:
        return slots - 1
    times = 0
    while (times + 1) * gain < loss:
        times += 1
    return slots - 1 + times


class Point31(unittest.TestCase):
    def test_without_tasks(self):
        self.assertEqual(system_bound(System([], table=[3, 4])), (0, 0, 1))

    def test_one_task(self):
        self.assertEqual(system_bound(System([engine_circle()], table=[7])), (1, 2, 2))

    def test_different_bottoms(self):
        tasks = [engine_circle(), lone("t", 3, 1, 4), lone("u", 2, 1, 3)]
        self.assertEqual([linear_bound(task) for task in tasks], [(1, 2, 2), (3, 9, 4), (2, 4, 3)])
        self.assertEqual(
            system_bound(System(tasks, table=[1])), (12 * 1 + 6 * 3 + 8 * 2, 12 * 2 + 6 * 9 + 8 * 4, 24),
        )

    def test_the_bottom_is_the_product_and_not_less(self):
        tasks = [lone("t", 3, 1, 4), lone("u", 1, 1, 4)]
        self.assertEqual(system_bound(System(tasks, table=[1])), (16, 48, 16))

    def test_tasks_without_circuits(self):
        tasks = [lone("t", 5, 1), lone("u", 1, 2, 3)]
        self.assertEqual(system_bound(System(tasks, table=[1])), (1, 5 * 3 + 1, 3))

    def test_the_table_has_no_effect(self):
        self.assertEqual(system_bound(System([engine_circle()], table=[0, 0, 9])), (1, 2, 2))

    def test_bounds_the_demand(self):
        random = Random(31)
        for _ in range(100):
            system = random_system(random, tasks=3)
            top, extra, bottom = system_bound(system)
            for length, found in enumerate(system_demands(system, 50)):
                self.assertLessEqual(found * bottom, top * length + extra)


class Point49(unittest.TestCase):
    def test_below_equal_and_above(self):
        for cost, expected in ((3, -1), (4, 0), (5, 1)):
            self.assertEqual(compare_load(System([lone("t", cost, 1, 4)], table=[1])), expected)
            self.assertEqual(compare_load(System([lone("t", cost, 1, 4)], table=[2, 0])), expected)

    def test_sums_of_shares_are_exact(self):
        def tasks(*distances):
            return [lone("t%d" % number, 1, 1, distance) for number, distance in enumerate(distances)]

        self.assertEqual(compare_load(System(tasks(2, 3, 6), table=[1])), 0)
        self.assertEqual(compare_load(System(tasks(2, 3, 7), table=[1])), -1)
        self.assertEqual(compare_load(System(tasks(2, 3, 5), table=[1])), 1)
        self.assertEqual(compare_load(System(tasks(999, 1000), table=[1] + [0] * 499)), 1)
        self.assertEqual(compare_load(System(tasks(1000, 1000), table=[1] + [0] * 499)), 0)

    def test_without_shares(self):
        self.assertEqual(compare_load(System([], table=[0])), 0)
        self.assertEqual(compare_load(System([], table=[0, 1])), -1)
        self.assertEqual(compare_load(System([lone("t", 9, 1)], table=[0])), 0)
        self.assertEqual(compare_load(System([lone("t", 9, 1)], table=[1])), -1)
        self.assertEqual(compare_load(System([lone("t", 1, 1, 9)], table=[0])), 1)

    def test_against_shares(self):
        random = Random(50)
        for _ in range(200):
            system = random_system(random, tasks=3)
            total = sum_ratios([share(task) for task in system.tasks])
            mean = make_ratio(sum(system.table), len(system.table))
            self.assertEqual(compare_load(system), compare_ratios(total, mean))


class Point50(unittest.TestCase):
    def test_a_gain_of_0_or_less(self):
        for cost in (4, 5):
            self.assertIsNone(decisive_horizon(System([lone("t", cost, 1, 4)], table=[1])))
        self.assertIsNone(decisive_horizon(System([], table=[0, 0])))

    def test_a_loss_of_0(self):
        # A table of length 1 and tasks without an extra.
        system = System([lone("t", 3, 4, 4)], table=[1])
        self.assertEqual(system_bound(system), (3, 0, 4))
        self.assertEqual(decisive_horizon(system), 0)
        self.assertEqual(decisive_horizon(System([], table=[5])), 0)

    def test_a_table_of_length_1(self):
        # The gain is 4 - 3 = 1, the loss 9: 8 times the gain is less.
        self.assertEqual(decisive_horizon(System([lone("t", 3, 1, 4)], table=[1])), 8)
        # The gain is 8 - 3 = 5: 1 times the gain is less.
        self.assertEqual(decisive_horizon(System([lone("t", 3, 1, 4)], table=[2])), 1)

    def test_a_product_equal_to_the_loss_is_not_less(self):
        # The loss is 9. The gain is 9: 0 times the gain; it is 3 above: 2 times the gain.
        self.assertEqual(decisive_horizon(System([lone("t", 3, 1, 4)], table=[3])), 0)
        task = lone("t", 2, 1, 4)
        self.assertEqual(linear_bound(task), (1, 3, 2))
        self.assertEqual(decisive_horizon(System([task], table=[1])), 2)
        self.assertEqual(decisive_horizon(System([task], table=[2])), 0)

    def test_a_longer_table(self):
        # The gain is 2 * 2 - 1 * 3 = 1, the loss 2 * 3 + 2 * 2 * 2 = 14: 13 times the gain is less.
        self.assertEqual(decisive_horizon(System([engine_circle()], table=[1, 0, 1])), 2 + 13)
        self.assertEqual(decisive_horizon(System([], table=[1, 0, 0])), 2 + 1)

    def test_against_the_words(self):
        random = Random(51)
        for _ in range(200):
            system = random_system(random, tasks=3)
            expected = slow_horizon(system)
            self.assertEqual(decisive_horizon(system), expected)
            self.assertEqual(expected is None, compare_load(system) != -1)

    def test_nothing_is_overfull_behind_it(self):
        random = Random(52)
        seen = 0
        for _ in range(300):
            system = random_system(random, tasks=2)
            horizon = decisive_horizon(system)
            if system.tasks and horizon is not None and not first_overfull(system, horizon=horizon):
                seen += 1
                self.assertIsNone(first_overfull(system, horizon=horizon + 60))
        self.assertGreater(seen, 20)


if __name__ == "__main__":
    unittest.main()
