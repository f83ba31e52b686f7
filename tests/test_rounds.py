"""neverlate.rounds: points 47 and 48."""

import unittest
from random import Random

from neverlate.demand import rows
from neverlate.misses import first_overfull
from neverlate.rounds import check_rounds, greatest_deadline, greatest_distance, rounds
from neverlate.tasks import System, Task
from samples import engine_circle, lone, random_system


def slow_growth(system, task, horizon, step):
    """The growth of point 47, word by word."""
    slots = len(system.table)
    distances = [distance for other in system.tasks for _, _, distance in other.ways]
    found = rows(task, horizon)
    values = [0]
    for kind in range(len(task.kinds)):
        for j in range(max(distances, default=0)):
            values.append(found[horizon - slots - j][kind] - found[horizon - slots - j - step][kind])
    return max(values)


def slow_check(system, step, horizon):
    """Point 48, word by word."""
    slots = len(system.table)
    if step < 1 or step % slots != 0:
        return False
    deadlines = [deadline for task in system.tasks for _, _, deadline in task.kinds]
    distances = [distance for task in system.tasks for _, _, distance in task.ways]
    if max(deadlines, default=0) + max(distances, default=0) + slots + step > horizon:
        return False
    growths = [slow_growth(system, task, horizon, step) for task in system.tasks]
    return sum(growths) <= sum(system.table) * (step // slots)


class Point47(unittest.TestCase):
    def test_without_tasks(self):
        system = System([], table=[1, 2])
        self.assertEqual((greatest_deadline(system), greatest_distance(system)), (0, 0))

    def test_without_ways(self):
        system = System([lone("a", 1, 7), lone("b", 1, 5)], table=[1])
        self.assertEqual((greatest_deadline(system), greatest_distance(system)), (7, 0))

    def test_the_greatest_of_all_tasks(self):
        system = System([lone("a", 1, 3, 2, 8), lone("b", 9, 6, 4), engine_circle()], table=[9])
        self.assertEqual((greatest_deadline(system), greatest_distance(system)), (6, 8))
        system = System([engine_circle(), lone("b", 9, 1)], table=[9])
        self.assertEqual((greatest_deadline(system), greatest_distance(system)), (3, 4))

    def test_all_lengths_of_the_greatest_distance_count(self):
        # The number grows by 1 at the lengths 1, 5, 9, ..; only the fourth length back sees the step.
        system = System([lone("t", 1, 1, 4)], table=[0])
        for horizon in range(7, 30):
            self.assertIs(check_rounds(system, step=1, horizon=horizon), False)
        free = System([lone("t", 1, 1, 4)], table=[1])
        self.assertIs(check_rounds(free, step=1, horizon=7), True)

    def test_the_distance_of_another_task_counts(self):
        # Task "a" alone would need a horizon of 1 + 0 + 1 + 4; beside "b" the distance 4 comes to it.
        self.assertIs(check_rounds(System([lone("a", 5, 1)], table=[1]), step=4, horizon=6), True)
        system = System([lone("a", 5, 1), lone("b", 1, 1, 4)], table=[1])
        self.assertIs(check_rounds(system, step=4, horizon=10), True)
        self.assertIs(check_rounds(system, step=4, horizon=9), False)

    def test_each_task_has_its_own_growth(self):
        # Each task grows by 1 within a step of 2, at even and at odd lengths.
        tasks = [lone("a", 1, 1, 2), lone("b", 1, 2, 2)]
        self.assertIs(check_rounds(System(tasks, table=[1]), step=2, horizon=7), True)
        self.assertIs(check_rounds(System(tasks, table=[1]), step=1, horizon=7), False)
        self.assertIs(check_rounds(System(tasks, table=[2]), step=1, horizon=7), True)


class Point48(unittest.TestCase):
    def test_example(self):
        system = System([engine_circle()], table=[1])
        self.assertEqual(rounds(system, horizon=11), 3)

    def test_without_tasks(self):
        system = System([], table=[0, 1])
        self.assertEqual(rounds(system, horizon=4), 2)
        self.assertIsNone(rounds(system, horizon=3))
        self.assertIs(check_rounds(system, step=2, horizon=4), True)
        self.assertIs(check_rounds(system, step=4, horizon=6), True)
        self.assertIs(check_rounds(system, step=4, horizon=5), False)

    def test_a_task_without_ways(self):
        system = System([lone("t", 9, 5)], table=[0])
        self.assertEqual(rounds(system, horizon=7), 1)
        self.assertIsNone(rounds(system, horizon=6))

    def test_the_step_0(self):
        for system in (System([], table=[1]), System([engine_circle()], table=[9])):
            self.assertIs(check_rounds(system, step=0, horizon=1000), False)

    def test_a_step_that_is_no_multiple_of_the_table(self):
        system = System([lone("t", 1, 1, 1)], table=[5, 5, 5])
        found = [step for step in range(12) if check_rounds(system, step=step, horizon=100)]
        self.assertEqual(found, [3, 6, 9])

    def test_a_horizon_that_is_just_enough_and_one_less(self):
        system = System([engine_circle()], table=[5, 5])
        for step in (2, 4, 6):
            self.assertIs(check_rounds(system, step=step, horizon=3 + 4 + 2 + step), True)
            self.assertIs(check_rounds(system, step=step, horizon=3 + 4 + 2 + step - 1), False)

    def test_the_least_of_several_steps(self):
        system = System([lone("t", 2, 3, 4)], table=[1])
        found = [step for step in range(40) if check_rounds(system, step=step, horizon=60)]
        self.assertEqual(found[:3], [2, 3, 4])
        self.assertEqual(rounds(system, horizon=60), 2)

    def test_too_much_growth_by_one(self):
        self.assertEqual(rounds(System([lone("t", 4, 9, 4)], table=[1]), horizon=60), 4)
        self.assertIsNone(rounds(System([lone("t", 5, 9, 4)], table=[1]), horizon=60))
        self.assertEqual(rounds(System([lone("t", 5, 9, 4)], table=[1, 2]), horizon=60), 4)

    def test_small_horizons(self):
        system = System([engine_circle()], table=[1] * 20)
        for horizon in (1, 5, 19, 20, 21, 46):
            self.assertIsNone(rounds(system, horizon=horizon))
            self.assertIs(check_rounds(system, step=20, horizon=horizon), False)
        self.assertEqual(rounds(system, horizon=47), 20)

    def test_against_the_words(self):
        random = Random(48)
        for _ in range(150):
            system = random_system(random, tasks=3)
            horizon = random.randint(1, 30)
            found = [step for step in range(horizon + 2) if slow_check(system, step, horizon)]
            for step in range(horizon + 2):
                self.assertIs(check_rounds(system, step=step, horizon=horizon), step in found)
            self.assertEqual(rounds(system, horizon=horizon), min(found, default=None))

    def test_no_window_is_ever_overfull_then(self):
        random = Random(49)
        seen = 0
        for _ in range(300):
            system = random_system(random, tasks=2)
            if system.tasks and rounds(system, horizon=24) and not first_overfull(system, horizon=24):
                seen += 1
                self.assertIsNone(first_overfull(system, horizon=120))
        self.assertGreater(seen, 20)

    def test_a_system_of_the_greatest_numbers(self):
        names = "abcdefgh"
        kinds = [(name, 1000, 1000) for name in names]
        ways = [(first, second, 1000) for first, second in zip(names, names[1:] + "a")]
        task = Task("t", kinds=kinds, ways=ways)
        self.assertIsNone(rounds(System([task], table=[1000000] * 1001), horizon=1000))


if __name__ == "__main__":
    unittest.main()
