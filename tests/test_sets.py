"""neverlate.sets: points 61 to 63."""

import unittest
from itertools import combinations
from random import Random

from neverlate.errors import Undecided, UnknownNumber
from neverlate.gives import trial
from neverlate.sets import can_live, cores
from neverlate.tasks import System
from samples import lone, random_system


def costs(*numbers, deadline=6):
    """A system whose tasks have one job each, with these costs and the same deadline."""
    tasks = [lone("t%d" % place, cost, deadline) for place, cost in enumerate(numbers)]
    return System(tasks, table=[1])


def all_sets(system):
    """All sets of tasks: fewer numbers first, then in the order of lists."""
    numbers = range(len(system.tasks))
    sets = [list(chosen) for count in range(len(numbers) + 1) for chosen in combinations(numbers, count)]
    return sorted(sets, key=lambda chosen: (len(chosen), chosen))


def slow_cores(system, horizon):
    """Point 62, word by word, or "undecided"."""
    trials = [(chosen, trial(system.only(chosen), horizon=horizon)) for chosen in all_sets(system)]
    if "undecided" in [found for _, found in trials]:
        return "undecided"
    unsafe = [set(chosen) for chosen, found in trials if found == "fails"]
    return [sorted(chosen) for chosen in unsafe if not any(other < chosen for other in unsafe)]


def found_cores(system, horizon):
    try:
        return cores(system, horizon=horizon)
    except Undecided as error:
        assert error.horizon == horizon
        return "undecided"


class Point61(unittest.TestCase):
    def test_safe_and_unsafe(self):
        system = costs(3, 4, 2)
        for numbers, safe in (([0], True), ([0, 2], True), ([1, 2], True), ([0, 1], False), ([0, 1, 2], False)):
            self.assertIs(can_live(system, numbers, horizon=20), safe)

    def test_the_empty_set(self):
        self.assertIs(can_live(costs(7), [], horizon=1), True)
        self.assertIs(can_live(System([], table=[0, 0]), [], horizon=1), True)

    def test_the_set_of_all_tasks(self):
        self.assertIs(can_live(costs(1, 1, 1, 1, 1, 1), [0, 1, 2, 3, 4, 5], horizon=20), True)
        self.assertIs(can_live(costs(1, 1, 1, 1, 1, 2), [0, 1, 2, 3, 4, 5], horizon=20), False)

    def test_the_first_unknown_number_in_the_list(self):
        for numbers, unknown in (
            ([3], 3), ([-1], -1), ([0, 3, 9], 3), ([0, 9, 3], 9), ([-2, 7], -2), ([0, 1, 2, 3], 3),
        ):
            with self.subTest(numbers), self.assertRaises(UnknownNumber) as caught:
                can_live(costs(9, 9, 9), numbers, horizon=20)
            self.assertEqual(caught.exception.number, unknown)
        with self.assertRaises(UnknownNumber):
            can_live(System([], table=[1]), [0], horizon=20)

    def test_undecided(self):
        system = System([lone("a", 2, 4, 4), lone("b", 2, 4, 4)], table=[1])
        self.assertIs(can_live(system, [0], horizon=12), True)
        with self.assertRaises(Undecided) as caught:
            can_live(system, [0, 1], horizon=12)
        self.assertEqual(caught.exception.horizon, 12)
        self.assertIs(can_live(system, [0, 1], horizon=13), True)
        with self.assertRaises(UnknownNumber):
            can_live(system, [0, 1, 2], horizon=12)

    def test_the_list_is_not_modified(self):
        numbers = [0, 2]
        can_live(costs(1, 1, 1), numbers, horizon=20)
        self.assertEqual(numbers, [0, 2])


class Point62(unittest.TestCase):
    def test_example(self):
        tasks = [lone("a", 2, 2), lone("b", 1, 2), lone("c", 3, 2)]
        self.assertEqual(cores(System(tasks, table=[1]), horizon=20), [[2], [0, 1]])

    def test_without_cores(self):
        self.assertEqual(cores(System([], table=[0]), horizon=1), [])
        self.assertEqual(cores(costs(1, 2, 3), horizon=20), [])

    def test_cores_of_one_two_and_three_numbers(self):
        self.assertEqual(cores(costs(7, 4, 3, 2, 2), horizon=20), [[0], [1, 2], [1, 3, 4], [2, 3, 4]])
        self.assertEqual(cores(costs(2, 2, 3, 4, 7), horizon=20), [[4], [2, 3], [0, 1, 2], [0, 1, 3]])

    def test_the_order_of_cores_of_the_same_count(self):
        self.assertEqual(
            cores(costs(4, 4, 4, 4), horizon=20), [[0, 1], [0, 2], [0, 3], [1, 2], [1, 3], [2, 3]],
        )
        self.assertEqual(cores(costs(9, 1, 8), horizon=20), [[0], [2]])

    def test_all_tasks_together(self):
        self.assertEqual(cores(costs(1, 1, 1, 1, 1, 2), horizon=20), [[0, 1, 2, 3, 4, 5]])

    def test_one_set_of_many_that_is_undecided(self):
        tasks = [lone("a", 2, 4, 4), lone("b", 2, 4, 4), lone("c", 9, 3), lone("d", 8, 3)]
        system = System(tasks, table=[1])
        self.assertEqual(found_cores(system, 12), "undecided")
        self.assertEqual(found_cores(system, 13), [[2], [3]])
        self.assertEqual(found_cores(system.only([0, 2, 3]), 12), [[1], [2]])

    def test_the_set_of_one_task_that_is_undecided(self):
        system = System([lone("c", 9, 3), lone("a", 4, 4, 4)], table=[1])
        self.assertEqual(found_cores(system, 12), "undecided")
        self.assertEqual(found_cores(system, 13), [[0]])

    def test_against_the_words(self):
        random = Random(62)
        seen = {}
        for _ in range(120):
            system = random_system(random, tasks=4, kinds=2, ways=2)
            horizon = random.choice((8, 30, 60))
            expected = slow_cores(system, horizon)
            self.assertEqual(found_cores(system, horizon), expected)
            seen[type(expected)] = seen.get(type(expected), 0) + 1
        self.assertGreater(min(seen.values()), 5)


class Point63(unittest.TestCase):
    def test_a_set_is_unsafe_if_and_only_if_it_contains_a_core(self):
        random = Random(63)
        systems = [costs(*[random.randint(1, 5) for _ in range(random.randint(0, 6))]) for _ in range(20)]
        for system in systems:
            found = cores(system, horizon=20)
            for chosen in all_sets(system):
                unsafe = any(set(core) <= set(chosen) for core in found)
                self.assertIs(can_live(system, chosen, horizon=20), not unsafe)


if __name__ == "__main__":
    unittest.main()
