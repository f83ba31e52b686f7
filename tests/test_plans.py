"""neverlate.plans: points 119 to 125."""

import unittest
from itertools import product
from random import Random

from neverlate.demand import demand
from neverlate.errors import Undecided
from neverlate.gives import trial
from neverlate.misses import first_overfull
from neverlate.plans import Plan, check_plan, plan_table, trim_table
from neverlate.tasks import System, Task
from neverlate.verdicts import is_never_late
from samples import engine_circle, lone, random_system, random_task


def fields(plan):
    return (plan.total, plan.table, plan.lengths)


def joint(tasks, length):
    return sum(demand(task, length) for task in tasks)


def slow_needs(tasks, slots, horizon, total, most):
    """Point 119, word by word: the greatest need of a chain of at most so many lengths to each instant."""
    wanted = [joint(tasks, length) for length in range(horizon + 1)]
    needs = {0: 0}
    for count in range(1, most + 1):
        for chain in product(range(1, horizon + 1), repeat=count):
            rounds, instant = divmod(sum(chain), slots)
            need = sum(wanted[length] for length in chain) - rounds * total
            needs[instant] = max(need, needs.get(instant, need))
    return needs


def slow_plan(tasks, slots, horizon):
    """Points 120 and 121, word by word, with chains of at most as many lengths as there are slots."""
    total = 0
    while slow_needs(tasks, slots, horizon, total, slots)[0] > 0:
        total += 1
    needs = slow_needs(tasks, slots, horizon, total, slots)
    table = [needs[slot + 1] - needs[slot] for slot in range(slots - 1)]
    return total, table + [total - needs[slots - 1]]


def slow_check(tasks, slots, plan):
    """Point 123, word by word."""
    if len(plan.table) != slots or sum(plan.table) != plan.total:
        return False
    if plan.total == 0:
        return True
    if len(plan.lengths) == 0 or any(length < 1 for length in plan.lengths):
        return False
    if sum(plan.lengths) % slots != 0:
        return False
    rounds = sum(plan.lengths) // slots
    return sum(joint(tasks, length) for length in plan.lengths) > rounds * (plan.total - 1)


def slow_trim(system, horizon):
    """Point 124, word by word: a list, None or "undecided"."""
    if trial(system, horizon=horizon) == "fails":
        return None
    table = list(system.table)
    for slot in range(len(table)):
        while table[slot] > 0:
            table[slot] -= 1
            if trial(system.with_table(table), horizon=horizon) == "fails":
                table[slot] += 1
                break
    return "undecided" if trial(system.with_table(table), horizon=horizon) == "undecided" else table


def random_tasks(random, count=2):
    return [random_task(random, "t%d" % number) for number in range(random.randint(0, count))]


ENGINE = [engine_circle()]


class Plans(unittest.TestCase):
    def plan(self, tasks, length, horizon):
        """The plan, or "undecided"."""
        try:
            return plan_table(tasks, length, horizon=horizon)
        except Undecided as error:
            self.assertEqual(error.horizon, horizon)
            return "undecided"

    def trim(self, system, horizon):
        try:
            return trim_table(system, horizon=horizon)
        except Undecided as error:
            self.assertEqual(error.horizon, horizon)
            return "undecided"

    def shows(self, tasks, slots, horizon, plan):
        """The lengths of the plan show that no smaller total is enough (point 122)."""
        if plan.total == 0:
            self.assertEqual(plan.lengths, [])
            return
        self.assertGreaterEqual(min(plan.lengths), 1)
        self.assertLessEqual(max(plan.lengths), horizon)
        rounds, rest = divmod(sum(plan.lengths), slots)
        self.assertEqual(rest, 0)
        self.assertGreaterEqual(rounds, 1)
        self.assertGreater(sum(joint(tasks, length) for length in plan.lengths), rounds * (plan.total - 1))


class Point119To121(Plans):
    def test_example(self):
        task = Task("a", kinds=[("x", 2, 2)], ways=[("x", "x", 4)])
        plan = plan_table([task], 2, horizon=30)
        self.assertEqual((plan.total, plan.table), (2, [0, 2]))

    def test_one_slot(self):
        # Each slot needs as much as the greatest demand for a length, divided by it.
        plan = plan_table([lone("t", 5, 2, 4)], 1, horizon=30)
        self.assertEqual((plan.total, plan.table), (3, [3]))
        plan = plan_table(ENGINE, 1, horizon=30)
        self.assertEqual((plan.total, plan.table), (1, [1]))

    def test_the_longest_table(self):
        # One job within 24 slots needs its units in the last slot that is within each of its windows.
        plan = plan_table([lone("t", 7, 24, 24)], 24, horizon=100)
        self.assertEqual((plan.total, plan.table), (7, [0] * 23 + [7]))
        plan = plan_table([lone("t", 7, 12, 24)], 24, horizon=100)
        self.assertEqual((plan.total, plan.table), (14, [0] * 11 + [7] + [0] * 11 + [7]))
        self.shows([lone("t", 7, 12, 24)], 24, 100, plan)

    def test_no_tasks(self):
        for slots in (1, 2, 24):
            self.assertEqual(fields(plan_table([], slots, horizon=1)), (0, [0] * slots, []))

    def test_a_total_of_0_with_tasks(self):
        # Up to the horizon nothing is due; the trial is undecided.
        self.assertEqual(self.plan([lone("t", 5, 9)], 3, 8), "undecided")

    def test_lengths_beyond_one_round(self):
        # Two units within 5 slots, and within no less: the table of 2 slots offers 2 * 2 - 1 or so.
        tasks = [lone("t", 4, 5, 9)]
        plan = plan_table(tasks, 2, horizon=60)
        self.assertEqual((plan.total, plan.table), slow_plan(tasks, 2, 12))
        self.shows(tasks, 2, 60, plan)

    def test_the_horizon_bounds_the_lengths(self):
        tasks = [lone("t", 2, 3), lone("u", 9, 8)]
        self.assertEqual(self.plan(tasks, 2, 4), "undecided")
        self.assertEqual(slow_plan(tasks, 2, 4), (2, [0, 2]))
        self.assertEqual(plan_table(tasks, 2, horizon=30).total, slow_plan(tasks, 2, 9)[0])

    def test_against_the_words(self):
        random = Random(119)
        seen = {}
        for _ in range(200):
            tasks = random_tasks(random)
            slots, horizon = random.randint(1, 4), random.randint(1, 6)
            expected = slow_plan(tasks, slots, horizon)
            plan = self.plan(tasks, slots, horizon)
            kind = trial(System(tasks, table=expected[1]), horizon=horizon)
            self.assertNotEqual(kind, "fails")
            if kind == "undecided":
                self.assertEqual(plan, "undecided")
            else:
                self.assertEqual((plan.total, plan.table), expected)
                self.shows(tasks, slots, horizon, plan)
            seen[kind, slots] = True
        self.assertEqual(len(seen), 8)

    def test_the_least_sum_of_all_tables(self):
        random = Random(120)
        count = 0
        for _ in range(60):
            tasks = random_tasks(random)
            slots = random.randint(1, 3)
            plan = self.plan(tasks, slots, 40)
            if plan == "undecided" or plan.total > 7:
                continue
            count += 1
            self.assertEqual(sum(plan.table), plan.total)
            self.assertIsNone(first_overfull(System(tasks, table=plan.table), horizon=40))
            for table in product(range(plan.total), repeat=slots):
                if sum(table) < plan.total:
                    # A window of a length up to the horizon, from a start in the first round.
                    self.assertIsNotNone(first_overfull(System(tasks, table=table), horizon=40 + slots))
        self.assertGreater(count, 20)


class Point122(Plans):
    def test_the_lengths_of_a_total_of_0(self):
        self.assertEqual(plan_table([], 5, horizon=30).lengths, [])

    def test_the_lengths_show_the_total(self):
        random = Random(122)
        counts = {}
        for _ in range(250):
            tasks = random_tasks(random, 3)
            slots = random.choice((1, 2, 3, 5, 8, 24))
            plan = self.plan(tasks, slots, 60)
            if plan != "undecided":
                self.shows(tasks, slots, 60, plan)
                self.assertTrue(check_plan(tasks, slots, plan))
                self.assertTrue(is_never_late(System(tasks, table=plan.table)))
                counts[len(plan.lengths)] = True
        self.assertGreaterEqual(len(counts), 4)

    def test_undecided_of_the_planned_table(self):
        # The planned table is [1], with which the load is full. The rows come round at 12.
        tasks = [lone("t", 4, 4, 4)]
        self.assertEqual(self.plan(tasks, 1, 12), "undecided")
        self.assertEqual(fields(self.plan(tasks, 1, 13))[:2], (1, [1]))

    def test_great_costs(self):
        tasks = [lone("t%d" % number, 1000, 1, 1) for number in range(6)]
        plan = plan_table(tasks, 24, horizon=1000)
        self.assertEqual((plan.total, plan.table), (144000, [6000] * 24))
        self.assertTrue(check_plan(tasks, 24, plan))

    def test_arguments_stay_as_they_were(self):
        tasks = [engine_circle(), lone("t", 1, 4)]
        before = list(tasks)
        plan_table(tasks, 3, horizon=60)
        self.assertEqual(tasks, before)

    def test_a_plan_keeps_copies(self):
        table, lengths = [1, 2], [3]
        plan = Plan(3, table, lengths)
        table.append(9)
        lengths.append(9)
        self.assertEqual(fields(plan), (3, [1, 2], [3]))


class Point123(Plans):
    # Two slots: 2 units within each window of 2 slots. [2] shows that a total of 1 is not enough.
    TASKS = [lone("a", 2, 2, 4)]

    def check(self, length, total, table, lengths, tasks=None):
        plan = Plan(total, table, lengths)
        found = check_plan(self.TASKS if tasks is None else tasks, length, plan)
        self.assertIs(found, slow_check(self.TASKS if tasks is None else tasks, length, plan))
        self.assertEqual(fields(plan), (total, table, lengths))
        return found

    def test_true(self):
        self.assertTrue(self.check(2, 2, [0, 2], [2]))
        # Any table of this sum, and any lengths that show it.
        self.assertTrue(self.check(2, 2, [2, 0], [2, 2]))
        self.assertTrue(self.check(2, 2, [1, 1], [2] * 1000))
        self.assertTrue(self.check(4, 2, [0, 0, 0, 2], [4]))

    def test_another_length_of_the_table(self):
        self.assertFalse(self.check(2, 2, [2], [2]))
        self.assertFalse(self.check(2, 2, [0, 0, 2], [2]))
        self.assertFalse(self.check(2, 0, [], []))
        self.assertFalse(self.check(2, 0, [0, 0, 0], []))

    def test_another_total(self):
        self.assertFalse(self.check(2, 2, [0, 1], [2]))
        self.assertFalse(self.check(2, 2, [1, 2], [2]))
        self.assertFalse(self.check(2, 0, [0, 1], []))
        self.assertFalse(self.check(2, 1, [0, 0], [2]))

    def test_a_total_of_0(self):
        for lengths in ([], [2], [1], [0], [0, 3]):
            self.assertTrue(self.check(2, 0, [0, 0], lengths))

    def test_no_lengths(self):
        self.assertFalse(self.check(2, 2, [0, 2], []))
        self.assertFalse(self.check(2, 1, [0, 1], []))

    def test_a_length_of_0(self):
        self.assertFalse(self.check(2, 2, [0, 2], [0, 2]))
        self.assertFalse(self.check(2, 2, [0, 2], [2, 0]))
        self.assertFalse(self.check(2, 2, [0, 2], [0]))

    def test_a_sum_that_is_no_multiple(self):
        self.assertFalse(self.check(2, 2, [0, 2], [3]))
        self.assertFalse(self.check(2, 2, [0, 2], [2, 2, 1]))
        self.assertTrue(self.check(2, 2, [0, 2], [2, 2, 1, 1, 2, 2]))
        self.assertFalse(self.check(4, 2, [0, 0, 0, 2], [2]))

    def test_a_sum_of_demands_that_is_too_small(self):
        self.assertFalse(self.check(2, 3, [0, 3], [2]))
        self.assertFalse(self.check(2, 2, [0, 2], [1, 1]))
        # The demand for 4 is that for 2, and the two rounds need more than 2.
        self.assertFalse(self.check(2, 2, [0, 2], [4]))
        self.assertTrue(self.check(2, 1, [0, 1], [4]))

    def test_a_smaller_total_than_the_least_one(self):
        # It makes no trial: the lengths show that a total of 0 is not enough, and no more is asked.
        self.assertTrue(self.check(2, 1, [0, 1], [2]))

    def test_no_tasks(self):
        self.assertFalse(self.check(2, 1, [0, 1], [2], tasks=[]))
        self.assertTrue(self.check(2, 0, [0, 0], [], tasks=[]))

    def test_against_the_words(self):
        random = Random(123)
        seen = {}
        for _ in range(400):
            tasks = random_tasks(random)
            slots = random.randint(1, 3)
            table = [random.randint(0, 3) for _ in range(slots)]
            total = sum(table) + random.choice((0, 0, 0, 1))
            lengths = [random.randint(0, 5) if random.random() < 0.2 else slots for _ in range(random.randint(0, 3))]
            seen[self.check(slots, total, table, lengths, tasks=tasks)] = True
        self.assertEqual(len(seen), 2)


class Point124(Plans):
    def test_example(self):
        task = Task("a", kinds=[("x", 2, 2)], ways=[("x", "x", 4)])
        self.assertEqual(trim_table(System([task], table=[3, 3]), horizon=30), [0, 2])

    def test_the_trial_of_the_system_fails(self):
        self.assertIsNone(trim_table(System([lone("t", 3, 2)], table=[1]), horizon=30))
        self.assertIsNone(trim_table(System([lone("t", 3, 1)], table=[0, 9]), horizon=30))
        self.assertEqual(trim_table(System([lone("t", 3, 2)], table=[0, 9]), horizon=30), [0, 3])
        # A window that is overfull behind the horizon does not fail.
        self.assertEqual(self.trim(System([lone("t", 30, 9)], table=[3]), 8), "undecided")

    def test_the_slots_in_ascending_order(self):
        self.assertEqual(trim_table(System([lone("t", 2, 3, 9)], table=[5, 5, 5]), horizon=60), [0, 0, 2])
        self.assertEqual(trim_table(System([lone("t", 2, 3, 9)], table=[5, 5, 1]), horizon=60), [0, 1, 1])

    def test_slots_that_stand_in_a_window_several_times(self):
        # A window of 5 slots has each of the two slots two or three times.
        self.assertEqual(trim_table(System([lone("t", 10, 5, 5)], table=[9, 9]), horizon=60), [0, 5])
        self.assertEqual(trim_table(System([lone("t", 10, 5, 5)], table=[9]), horizon=60), [2])

    def test_capacities_of_0(self):
        self.assertEqual(trim_table(System([], table=[0, 0]), horizon=1), [0, 0])
        self.assertEqual(trim_table(System([], table=[3, 0, 1000000]), horizon=1), [0, 0, 0])
        self.assertEqual(trim_table(System([lone("t", 2, 3, 9)], table=[0, 2, 0]), horizon=60), [0, 2, 0])

    def test_great_capacities(self):
        self.assertEqual(trim_table(System([lone("t", 2, 2, 4)], table=[1000000, 1000000]), horizon=60), [0, 2])

    def test_undecided_trials_on_the_way(self):
        # An undecided trial does not end the search, and it does not count as a failed one. With less capacity
        # a table is never decided at a smaller horizon, so the last trial is undecided, too.
        random = Random(124)
        found = {}
        for _ in range(400):
            system = random_system(random)
            horizon = random.randint(1, 15)
            if trial(system, horizon=horizon) == "undecided":
                self.assertEqual(self.trim(system, horizon), slow_trim(system, horizon))
                found[horizon] = True
        self.assertGreater(len(found), 4)

    def test_an_undecided_one_at_the_end(self):
        self.assertEqual(trial(System([lone("t", 5, 9)], table=[9]), horizon=8), "holds")
        self.assertEqual(self.trim(System([lone("t", 5, 9)], table=[9]), 8), "undecided")
        self.assertEqual(self.trim(System([lone("t", 5, 9)], table=[9]), 12), [1])

    def test_the_system_stays_as_it_was(self):
        system = System([lone("t", 2, 2, 4)], table=[3, 3])
        trim_table(system, horizon=30).append(9)
        self.assertEqual(system.table, (3, 3))
        self.assertEqual(trim_table(system, horizon=30), [0, 2])

    def test_against_the_words(self):
        random = Random(125)
        seen = {}
        for _ in range(300):
            system = random_system(random)
            horizon = random.randint(1, 30)
            found = self.trim(system, horizon)
            self.assertEqual(found, slow_trim(system, horizon))
            seen[found if found in (None, "undecided") else "found"] = True
        self.assertEqual(len(seen), 3)


class Point125(Plans):
    def test_no_capacity_can_be_lowered_more(self):
        random = Random(126)
        count = 0
        for _ in range(150):
            system = random_system(random)
            table = self.trim(system, 30)
            if table in (None, "undecided"):
                continue
            self.assertTrue(is_never_late(system.with_table(table)))
            for slot, units in enumerate(table):
                if units > 0:
                    lower = table[:slot] + [units - 1] + table[slot + 1:]
                    self.assertIsNotNone(first_overfull(system.with_table(lower), horizon=30))
                    count += 1
        self.assertGreater(count, 20)


if __name__ == "__main__":
    unittest.main()
