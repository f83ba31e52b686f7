"""neverlate.supply: points 19 to 21."""

import unittest
from random import Random

from neverlate.supply import (
    capacity,
    first_end,
    least_start,
    least_supplies,
    least_supply,
    supplies,
    supply,
    supply_of_first,
    table_share,
)
from samples import random_table

FAR = 10 ** 59 + 123456789


def slow_supply(table, start, end):
    return sum([table[slot % len(table)] for slot in range(start, end)])


class Point19(unittest.TestCase):
    def test_example(self):
        self.assertEqual(supply([2, 0, 1], 1, 5), 3)

    def test_capacity(self):
        self.assertEqual([capacity([2, 0, 1], slot) for slot in range(7)], [2, 0, 1, 2, 0, 1, 2])
        self.assertEqual(capacity([7], FAR), 7)
        self.assertEqual(capacity((5, 6), 10 ** 60 - 1), 6)

    def test_an_end_that_is_not_greater(self):
        for start, end in ((0, 0), (5, 5), (5, 4), (5, 0), (FAR, 0), (FAR, FAR)):
            self.assertEqual(supply([2, 0, 1], start, end), 0)

    def test_supply_of_first(self):
        self.assertEqual([supply_of_first([2, 0, 1], slots) for slots in range(8)], [0, 2, 2, 3, 5, 5, 6, 8])
        self.assertEqual(supply_of_first([2, 0, 1], 3 * FAR + 1), 3 * FAR + 2)

    def test_all_supplies_from_0(self):
        self.assertEqual(supplies([2, 0, 1], 7), [0, 2, 2, 3, 5, 5, 6, 8])
        self.assertEqual(supplies([2, 0, 1], 0), [0])

    def test_far_instants(self):
        self.assertEqual(supply([2, 0, 1], 3 * FAR, 3 * FAR + 1), 2)
        self.assertEqual(supply([2, 0, 1], 3 * FAR + 1, 3 * FAR + 2), 0)
        self.assertEqual(supply([2, 0, 1], 1, 3 * FAR + 2), 3 * FAR)
        self.assertEqual(supply([1000000] * 1001, 0, FAR), 1000000 * FAR)

    def test_zeros_alone(self):
        self.assertEqual(supply([0, 0], 3, FAR), 0)
        self.assertEqual(capacity([0, 0], FAR), 0)

    def test_against_a_sum_of_slots(self):
        random = Random(6)
        for _ in range(500):
            table = random_table(random, slots=6)
            start = random.randint(0, 15)
            end = random.randint(0, 30)
            self.assertEqual(supply(table, start, end), slow_supply(table, start, end))

    def test_the_table_is_not_modified(self):
        table = [2, 0, 1]
        supply(table, 1, 5)
        least_supplies(table, 9)
        first_end(table, 1, 30)
        self.assertEqual(table, [2, 0, 1])


class Point20(unittest.TestCase):
    def test_least_supply(self):
        self.assertEqual([least_supply([2, 0, 1], length) for length in range(8)], [0, 0, 1, 3, 3, 4, 6, 6])

    def test_least_start(self):
        self.assertEqual([least_start([2, 0, 1], length) for length in range(8)], [0, 1, 1, 0, 1, 1, 0, 1])

    def test_the_least_of_several_starts(self):
        self.assertEqual(least_start([1, 0, 1, 0], 1), 1)
        self.assertEqual(least_start([1, 1, 0, 0, 0], 2), 2)
        self.assertEqual(least_start([1, 0, 0, 1, 0, 0], 2), 1)
        self.assertEqual(least_start([0, 0], 5), 0)
        self.assertEqual(least_start([3, 1], 0), 0)

    def test_a_window_over_the_end_of_the_table(self):
        self.assertEqual(least_supply([0, 5, 5, 1], 2), 1)
        self.assertEqual(least_start([0, 5, 5, 1], 2), 3)

    def test_long_windows(self):
        self.assertEqual(least_supply([2, 0, 1], 3 * FAR + 1), 3 * FAR)
        self.assertEqual(least_start([2, 0, 1], 3 * FAR + 1), 1)
        self.assertEqual(least_supply([0], FAR), 0)

    def test_least_supplies(self):
        self.assertEqual(least_supplies([2, 0, 1], 0), [0])
        self.assertEqual(least_supplies([2, 0, 1], 1), [0, 0])
        self.assertEqual(least_supplies([2, 0, 1], 7), [0, 0, 1, 3, 3, 4, 6, 6])
        self.assertEqual(least_supplies([4], 3), [0, 4, 8, 12])
        self.assertEqual(least_supplies((0, 0), 3), [0, 0, 0, 0])

    def test_against_all_windows(self):
        random = Random(7)
        for _ in range(200):
            table = random_table(random, slots=6)
            for length in range(20):
                windows = [slow_supply(table, start, start + length) for start in range(30)]
                self.assertEqual(least_supply(table, length), min(windows))
                self.assertEqual(least_start(table, length), windows.index(min(windows)))
                self.assertEqual(least_supplies(table, length)[-1], min(windows))
                self.assertEqual(len(least_supplies(table, length)), length + 1)

    def test_share(self):
        self.assertEqual(table_share([2, 0, 2, 0]), (1, 1))
        self.assertEqual(table_share([1, 0, 1, 0]), (1, 2))
        self.assertEqual(table_share([5, 0, 0]), (5, 3))
        self.assertEqual(table_share([0, 0, 0]), (0, 1))
        self.assertEqual(table_share((7,)), (7, 1))


class Point21(unittest.TestCase):
    def test_example(self):
        self.assertEqual(first_end([2, 0, 1], 1, 3), 4)

    def test_the_wanted_number_0(self):
        for start in (0, 1, 7, FAR):
            self.assertEqual(first_end([2, 0, 1], start, 0), start)
            self.assertEqual(first_end([0], start, 0), start)

    def test_no_such_instant(self):
        for wanted in (1, FAR):
            self.assertIsNone(first_end([0, 0, 0], 2, wanted))

    def test_just_enough(self):
        self.assertEqual([first_end([2, 0, 1], 0, wanted) for wanted in range(8)], [0, 1, 1, 3, 4, 4, 6, 7])
        self.assertEqual([first_end([2, 0, 1], 2, wanted) for wanted in range(5)], [2, 3, 4, 4, 6])

    def test_slots_of_0_before_the_end_are_needed_no_longer(self):
        self.assertEqual(first_end([3, 0, 0], 0, 3), 1)
        self.assertEqual(first_end([3, 0, 0], 1, 3), 4)

    def test_far(self):
        self.assertEqual(first_end([2, 0, 1], 3 * FAR, 3), 3 * FAR + 3)
        self.assertEqual(first_end([2, 0, 1], 0, 3 * FAR), 3 * FAR)
        self.assertEqual(first_end([2, 0, 1], 1, 3 * FAR), 3 * FAR + 1)
        self.assertEqual(first_end([1], FAR, FAR), 2 * FAR)

    def test_is_the_least_instant(self):
        random = Random(8)
        for _ in range(500):
            table = random_table(random, slots=6) + [1]
            start = random.randint(0, 20)
            wanted = random.randint(1, 30)
            end = first_end(table, start, wanted)
            self.assertGreaterEqual(slow_supply(table, start, end), wanted)
            self.assertLess(slow_supply(table, start, end - 1), wanted)


if __name__ == "__main__":
    unittest.main()
