"""neverlate.servers: points 87 to 89."""

import unittest
from random import Random

from neverlate.demand import demand
from neverlate.servers import longest_period, needed_budget, needed_capacity, server_supply, server_table
from neverlate.supply import least_supply
from samples import engine_circle, lone, random_task


def slow_table(period, budget, offset, capacity):
    """Point 87, word by word."""
    table = [0] * period
    slot = offset
    for _ in range(budget):
        table[slot] = capacity
        slot = 0 if slot == period - 1 else slot + 1
    return table


def is_enough(tasks, table, horizon):
    """Point 89, word by word."""
    return all(
        least_supply(table, length) >= sum(demand(task, length) for task in tasks)
        for length in range(horizon + 1)
    )


def slow_capacity(tasks, horizon):
    capacity = 0
    while not is_enough(tasks, [capacity], horizon):
        capacity += 1
    return capacity


def slow_budget(tasks, period, horizon, capacity):
    for budget in range(period + 1):
        if is_enough(tasks, slow_table(period, budget, 0, capacity), horizon):
            return budget
    return None


def slow_period(tasks, share, horizon, longest):
    found = None
    for period in range(1, longest + 1):
        budget = 0
        while budget * share[1] < period * share[0]:
            budget += 1
        if is_enough(tasks, slow_table(period, budget, 0, 1), horizon):
            found = period
    return found


def random_tasks(random):
    return [random_task(random, "t%d" % number) for number in range(random.randint(0, 3))]


class Point87(unittest.TestCase):
    def test_example(self):
        self.assertEqual(server_table(period=5, budget=2, offset=4), [1, 0, 0, 0, 1])

    def test_without_offset_and_capacity(self):
        self.assertEqual(server_table(period=4, budget=3), [1, 1, 1, 0])
        self.assertEqual(server_table(period=1, budget=1), [1])

    def test_budget_0_and_the_whole_period(self):
        for offset in range(4):
            self.assertEqual(server_table(period=4, budget=0, offset=offset, capacity=7), [0, 0, 0, 0])
            self.assertEqual(server_table(period=4, budget=4, offset=offset, capacity=7), [7, 7, 7, 7])

    def test_an_offset_from_which_the_budget_goes_round(self):
        self.assertEqual(server_table(period=5, budget=3, offset=2, capacity=2), [0, 0, 2, 2, 2])
        self.assertEqual(server_table(period=5, budget=3, offset=3, capacity=2), [2, 0, 0, 2, 2])
        self.assertEqual(server_table(period=5, budget=4, offset=4, capacity=2), [2, 2, 2, 0, 2])

    def test_capacity_0_and_the_greatest_one(self):
        self.assertEqual(server_table(period=3, budget=2, offset=1, capacity=0), [0, 0, 0])
        self.assertEqual(server_table(period=3, budget=2, offset=1, capacity=1000000), [0, 1000000, 1000000])

    def test_all_small_servers(self):
        for period in range(1, 6):
            for budget in range(period + 1):
                for offset in range(period):
                    self.assertEqual(
                        server_table(period=period, budget=budget, offset=offset, capacity=3),
                        slow_table(period, budget, offset, 3),
                    )

    def test_the_longest_period(self):
        table = server_table(period=1000, budget=600, offset=999)
        self.assertEqual(table, [1] * 599 + [0] * 400 + [1])

    def test_new_lists(self):
        table = server_table(period=3, budget=1)
        table[0] = 9
        self.assertEqual(server_table(period=3, budget=1), [1, 0, 0])


class Point88(unittest.TestCase):
    def test_the_least_supply_of_the_table_at_every_offset(self):
        for period in range(1, 7):
            for budget in range(period + 1):
                for length in range(4 * period + 2):
                    found = server_supply(period=period, budget=budget, length=length, capacity=3)
                    for offset in range(period):
                        table = server_table(period=period, budget=budget, offset=offset, capacity=3)
                        self.assertEqual(found, least_supply(table, length))

    def test_the_capacity_left_out_is_1(self):
        self.assertEqual(server_supply(period=5, budget=2, length=9), 3)
        self.assertEqual(server_supply(period=5, budget=2, length=9, capacity=1), 3)

    def test_edges(self):
        self.assertEqual(server_supply(period=5, budget=2, length=0, capacity=9), 0)
        self.assertEqual(server_supply(period=5, budget=0, length=99, capacity=9), 0)
        self.assertEqual(server_supply(period=5, budget=5, length=99, capacity=2), 198)
        self.assertEqual(server_supply(period=5, budget=2, length=99, capacity=0), 0)
        self.assertEqual(server_supply(period=5, budget=2, length=3, capacity=9), 0)
        self.assertEqual(server_supply(period=5, budget=2, length=4, capacity=9), 9)

    def test_great_lengths(self):
        length = 5 * 10 ** 59 + 4
        self.assertEqual(server_supply(period=5, budget=2, length=length), 2 * 10 ** 59 + 1)


class Point89Capacity(unittest.TestCase):
    def test_ordinary(self):
        self.assertEqual(needed_capacity([engine_circle()], horizon=20), slow_capacity([engine_circle()], 20))
        self.assertEqual(needed_capacity([lone("t", 5, 2, 4)], horizon=20), 3)
        self.assertEqual(needed_capacity([lone("t", 5, 2, 4), lone("u", 4, 3)], horizon=20), 3)
        self.assertEqual(needed_capacity([lone("t", 5, 2, 4), lone("u", 4, 2)], horizon=20), 5)

    def test_without_tasks(self):
        self.assertEqual(needed_capacity([], horizon=20), 0)

    def test_a_horizon_below_every_deadline(self):
        self.assertEqual(needed_capacity([lone("t", 500, 9)], horizon=8), 0)
        self.assertEqual(needed_capacity([lone("t", 500, 9)], horizon=9), 56)

    def test_the_greatest_one(self):
        tasks = [lone("t%d" % number, 1000, 1, 1) for number in range(6)]
        self.assertEqual(needed_capacity(tasks, horizon=1000), 6000)

    def test_against_the_words(self):
        random = Random(89)
        for _ in range(150):
            tasks = random_tasks(random)
            horizon = random.randint(1, 20)
            self.assertEqual(needed_capacity(tasks, horizon=horizon), slow_capacity(tasks, horizon))


class Point89Budget(unittest.TestCase):
    def test_ordinary(self):
        tasks = [lone("t", 2, 4, 4)]
        self.assertEqual(needed_budget(tasks, period=4, horizon=30), 2)
        self.assertEqual(needed_budget(tasks, period=6, horizon=30), 4)
        self.assertEqual(needed_budget(tasks, period=6, horizon=30, capacity=2), 3)

    def test_without_tasks(self):
        self.assertEqual(needed_budget([], period=6, horizon=30), 0)

    def test_a_horizon_below_every_deadline(self):
        self.assertEqual(needed_budget([lone("t", 500, 9)], period=3, horizon=8), 0)
        self.assertIsNone(needed_budget([lone("t", 500, 9)], period=3, horizon=9))

    def test_the_whole_period_and_not_even_that(self):
        self.assertEqual(needed_budget([lone("t", 3, 3, 3)], period=5, horizon=30), 5)
        self.assertIsNone(needed_budget([lone("t", 4, 3)], period=5, horizon=30))
        self.assertIsNone(needed_budget([lone("t", 1, 3)], period=5, horizon=30, capacity=0))
        self.assertEqual(needed_budget([], period=5, horizon=30, capacity=0), 0)

    def test_a_period_of_1(self):
        self.assertEqual(needed_budget([lone("t", 1, 3)], period=1, horizon=30), 1)

    def test_against_the_words(self):
        random = Random(90)
        answers = []
        for _ in range(150):
            tasks = random_tasks(random)
            period, horizon, capacity = random.randint(1, 7), random.randint(1, 20), random.randint(0, 4)
            found = needed_budget(tasks, period=period, horizon=horizon, capacity=capacity)
            self.assertEqual(found, slow_budget(tasks, period, horizon, capacity))
            answers.append(found)
        self.assertIn(None, answers)
        self.assertGreater(len(set(answers)), 4)


class Point89Period(unittest.TestCase):
    def test_ordinary(self):
        tasks = [lone("t", 1, 6, 6)]
        # The budget 2 of the period 4 leaves a gap of 2 slots, and so on.
        self.assertEqual(longest_period(tasks, share=(1, 2), horizon=30, longest=30), 11)
        self.assertEqual(longest_period(tasks, share=(1, 2), horizon=30, longest=9), 9)

    def test_a_budget_that_is_rounded_up(self):
        # The budgets of the periods 2, 3 and 4 are 1, 1 and 2. Rounded down, none of them would be enough.
        tasks = [lone("t", 2, 4, 9)]
        self.assertFalse(is_enough(tasks, slow_table(4, 1, 0, 1), 30))
        self.assertEqual(longest_period(tasks, share=(1, 3), horizon=30, longest=4), 4)
        self.assertEqual(longest_period(tasks, share=(1, 3), horizon=30, longest=3), 2)

    def test_share_0(self):
        self.assertIsNone(longest_period([lone("t", 1, 6)], share=(0, 1), horizon=30, longest=20))
        self.assertEqual(longest_period([lone("t", 1, 6)], share=(0, 1), horizon=5, longest=20), 20)
        self.assertEqual(longest_period([], share=(0, 1), horizon=30, longest=20), 20)

    def test_share_1(self):
        self.assertEqual(longest_period([lone("t", 6, 6, 6)], share=(1, 1), horizon=30, longest=20), 20)
        self.assertIsNone(longest_period([lone("t", 7, 6)], share=(1, 1), horizon=30, longest=20))

    def test_none_1_and_the_bound_itself(self):
        self.assertIsNone(longest_period([lone("t", 2, 1)], share=(1, 2), horizon=30, longest=20))
        self.assertEqual(longest_period([lone("t", 1, 1)], share=(1, 2), horizon=30, longest=20), 1)
        self.assertEqual(longest_period([lone("t", 1, 1)], share=(1, 2), horizon=30, longest=1), 1)
        self.assertEqual(longest_period([lone("t", 1, 9)], share=(1, 2), horizon=30, longest=5), 5)

    def test_a_longer_period_may_be_enough_where_a_shorter_one_is_not(self):
        # Periods of 1 and 3 have budgets of 1 and 2, that of 2 has the budget 1.
        tasks = [lone("t", 2, 3, 3)]
        self.assertTrue(is_enough(tasks, slow_table(1, 1, 0, 1), 30))
        self.assertFalse(is_enough(tasks, slow_table(2, 1, 0, 1), 30))
        self.assertTrue(is_enough(tasks, slow_table(3, 2, 0, 1), 30))
        self.assertEqual(longest_period(tasks, share=(1, 2), horizon=30, longest=2), 1)
        self.assertEqual(longest_period(tasks, share=(1, 2), horizon=30, longest=20), 3)

    def test_against_the_words(self):
        random = Random(91)
        answers = []
        for _ in range(150):
            tasks = random_tasks(random)
            bottom = random.randint(1, 5)
            share = random.choice([(0, 1), (1, 1), (1, 2), (2, 3), (3, 4), (1, bottom)])
            horizon, longest = random.randint(1, 15), random.randint(1, 9)
            found = longest_period(tasks, share=share, horizon=horizon, longest=longest)
            self.assertEqual(found, slow_period(tasks, share, horizon, longest))
            answers.append(found)
        self.assertIn(None, answers)
        self.assertGreater(len(set(answers)), 4)


if __name__ == "__main__":
    unittest.main()
