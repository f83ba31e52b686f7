"""neverlate.gives: points 57 to 60."""

import unittest
from random import Random

from neverlate.errors import Undecided, UnknownName, UnknownNumber
from neverlate.gives import least_deadline, least_distance, most_cost, spare_capacity, trial
from neverlate.tasks import System, Task
from neverlate.verdicts import is_never_late
from samples import engine_circle, lone, random_system


def with_kind(system, task_number, kind_number, cost=None, deadline=None):
    """The system in which one kind has another cost or another deadline."""
    task = system.tasks[task_number]
    kinds = [list(kind) for kind in task.kinds]
    kinds[kind_number][1] = cost or kinds[kind_number][1]
    kinds[kind_number][2] = deadline or kinds[kind_number][2]
    tasks = list(system.tasks)
    tasks[task_number] = Task(task.name, kinds=[tuple(kind) for kind in kinds], ways=task.ways)
    return System(tasks, table=system.table)


def with_distance(system, task_number, way_number, distance):
    """The system in which one way has another distance."""
    task = system.tasks[task_number]
    ways = [way[:2] + (distance,) if number == way_number else way for number, way in enumerate(task.ways)]
    tasks = list(system.tasks)
    tasks[task_number] = Task(task.name, kinds=task.kinds, ways=ways)
    return System(tasks, table=system.table)


def slow_give(systems, horizon):
    """Point 59, word by word, of pairs (number, system)."""
    last = (None, None)
    for number, system in systems:
        found = trial(system, horizon=horizon)
        if found == "fails":
            break
        last = (number, found)
    return "undecided" if last[1] == "undecided" else last[0]


def outcome(function, *arguments, horizon):
    """What the function returns, or "undecided"."""
    try:
        return function(*arguments, horizon=horizon)
    except Undecided as error:
        assert error.horizon == horizon
        return "undecided"


# The rows of task "a" come round by 4, but a distance of 50 beside it needs a greater horizon.
FULL = lone("a", 4, 8, 4)


def pair(distance):
    return Task("b", kinds=[("x", 1, 4), ("y", 1, 4)], ways=[("x", "y", distance)])


class Point57(unittest.TestCase):
    def test_holds(self):
        self.assertEqual(trial(System([engine_circle()], table=[1]), horizon=20), "holds")
        self.assertEqual(trial(System([], table=[0]), horizon=1), "holds")

    def test_fails(self):
        self.assertEqual(trial(System([engine_circle()], table=[0, 1]), horizon=3), "fails")

    def test_undecided(self):
        self.assertEqual(trial(System([engine_circle()], table=[0, 1]), horizon=2), "undecided")
        self.assertEqual(trial(System([lone("t", 4, 4, 4)], table=[1]), horizon=12), "undecided")
        self.assertEqual(trial(System([lone("t", 4, 4, 4)], table=[1]), horizon=13), "holds")


class Point58(unittest.TestCase):
    def test_examples(self):
        task = Task("a", kinds=[("x", 1, 3)], ways=[("x", "x", 4)])
        self.assertEqual(most_cost(System([task], table=[1]), 0, "x", horizon=20), 3)
        self.assertEqual(spare_capacity(System([task], table=[2]), horizon=20), 1)
        task = Task("a", kinds=[("x", 2, 2)], ways=[("x", "x", 4)])
        self.assertEqual(least_distance(System([task], table=[1]), 0, 0, horizon=20), 2)

    def test_only_the_named_kind_of_the_named_task_changes(self):
        tasks = [Task(name, kinds=[("x", 1, 9), ("y", 1, 4)]) for name in "ab"]
        system = System(tasks, table=[1])
        self.assertEqual(most_cost(system, 0, "x", horizon=20), 8)
        self.assertEqual(most_cost(system, 1, "y", horizon=20), 3)
        self.assertEqual(least_deadline(system, 0, "y", horizon=20), 1)
        system = System([lone("a", 2, 9), lone("b", 3, 7)], table=[1])
        self.assertEqual(least_deadline(system, 0, "k", horizon=20), 2)
        self.assertEqual(least_deadline(system, 1, "k", horizon=20), 3)

    def test_only_the_meant_one_of_several_ways_changes(self):
        ways = [("x", "x", 9), ("x", "x", 5), ("x", "x", 7)]
        task = Task("a", kinds=[("x", 2, 2)], ways=ways)
        system = System([task], table=[1, 1, 0])
        self.assertEqual(trial(system, horizon=40), "fails")
        system = System([task], table=[1])
        for number in range(3):
            self.assertEqual(least_distance(system, 0, number, horizon=40), 2)
        # Beside a way of the distance 3 nothing is to spare; the others can be shortened to it, not below.
        ways = [("x", "x", 9), ("x", "x", 3), ("x", "x", 7)]
        system = System([Task("a", kinds=[("x", 3, 3)], ways=ways)], table=[1])
        for number in range(3):
            self.assertEqual(least_distance(system, 0, number, horizon=40), 3)
        self.assertEqual(system.tasks[0].ways, tuple(ways))

    def test_an_amount_is_taken_from_every_capacity(self):
        system = System([lone("t", 2, 2, 4)], table=[4, 3, 5])
        self.assertEqual(spare_capacity(system, horizon=40), 2)
        self.assertEqual(spare_capacity(System([lone("t", 2, 3, 4)], table=[4, 3, 5]), horizon=40), 3)

    def test_a_least_capacity_of_0(self):
        self.assertEqual(spare_capacity(System([lone("t", 2, 2, 9)], table=[5, 0]), horizon=40), 0)
        self.assertIsNone(spare_capacity(System([lone("t", 2, 1, 9)], table=[5, 0]), horizon=40))
        system = System([lone("t", 10, 8, 4)], table=[5, 0])
        self.assertEqual(outcome(spare_capacity, system, horizon=17), "undecided")
        self.assertEqual(spare_capacity(system, horizon=18), 0)

    def test_all_numbers_can_be_good(self):
        self.assertEqual(most_cost(System([lone("t", 7, 9, 9)], table=[1000]), 0, "k", horizon=40), 1000)
        self.assertEqual(most_cost(System([lone("t", 1000, 1, 1)], table=[1000]), 0, "k", horizon=40), 1000)
        self.assertEqual(least_deadline(System([lone("t", 7, 9, 9)], table=[7]), 0, "k", horizon=40), 1)
        self.assertEqual(least_deadline(System([lone("t", 1, 1)], table=[7]), 0, "k", horizon=40), 1)
        self.assertEqual(least_distance(System([lone("t", 7, 9, 9)], table=[7]), 0, 0, horizon=40), 1)
        self.assertEqual(least_distance(System([lone("t", 7, 9, 1)], table=[7]), 0, 0, horizon=40), 1)
        self.assertEqual(spare_capacity(System([], table=[7, 8]), horizon=40), 7)

    def test_unknown_numbers_and_names(self):
        system = System([lone("t", 1, 9, 9), lone("u", 1, 9)], table=[1])
        for function in (most_cost, least_deadline):
            for number in (2, -1, 99):
                for name in ("k", "x"):
                    with self.assertRaises(UnknownNumber) as caught:
                        function(system, number, name, horizon=20)
                    self.assertEqual(caught.exception.number, number)
            with self.assertRaises(UnknownName) as caught:
                function(system, 1, "t", horizon=20)
            self.assertEqual(caught.exception.name, "t")

    def test_unknown_numbers_of_ways(self):
        system = System([lone("t", 1, 9, 9, 8), lone("u", 1, 9)], table=[1])
        for task_number, way_number, unknown in (
            (0, 2, 2), (0, -1, -1), (1, 0, 0), (1, -1, -1), (2, 0, 2), (-1, 0, -1), (-2, 9, -2), (3, -1, 3),
        ):
            with self.assertRaises(UnknownNumber) as caught:
                least_distance(system, task_number, way_number, horizon=20)
            self.assertEqual(caught.exception.number, unknown)

    def test_unknown_names_come_before_failing_trials(self):
        system = System([lone("t", 2, 1, 9)], table=[1])
        self.assertIsNone(most_cost(system, 0, "k", horizon=20))
        with self.assertRaises(UnknownName):
            most_cost(system, 0, "x", horizon=20)


class Point59(unittest.TestCase):
    def test_a_first_number_whose_trial_fails(self):
        system = System([lone("t", 3, 2, 5)], table=[1])
        self.assertIsNone(most_cost(system, 0, "k", horizon=20))
        self.assertIsNone(least_deadline(system, 0, "k", horizon=20))
        self.assertIsNone(least_distance(system, 0, 0, horizon=20))
        self.assertIsNone(spare_capacity(system, horizon=20))

    def test_a_last_good_number_that_is_undecided(self):
        system = System([lone("t", 1, 4, 4)], table=[1])
        with self.assertRaises(Undecided) as caught:
            most_cost(system, 0, "k", horizon=12)
        self.assertEqual(caught.exception.horizon, 12)
        self.assertEqual(most_cost(system, 0, "k", horizon=13), 4)
        system = System([lone("t", 4, 9, 4)], table=[1])
        self.assertEqual(outcome(least_deadline, system, 0, "k", horizon=12), "undecided")
        self.assertEqual(outcome(least_deadline, system, 0, "k", horizon=13), 4)
        system = System([lone("t", 4, 4, 9)], table=[1])
        self.assertEqual(outcome(least_distance, system, 0, 0, horizon=12), "undecided")
        self.assertEqual(outcome(least_distance, system, 0, 0, horizon=13), 4)
        system = System([lone("t", 4, 4, 4)], table=[7])
        self.assertEqual(outcome(spare_capacity, system, horizon=12), "undecided")
        self.assertEqual(outcome(spare_capacity, system, horizon=13), 6)

    def test_an_earlier_number_that_is_undecided(self):
        system = System([FULL, pair(50)], table=[1])
        self.assertEqual(trial(system, horizon=30), "undecided")
        self.assertEqual(trial(System([FULL, pair(49)], table=[1]), horizon=30), "undecided")
        self.assertEqual(least_distance(system, 1, 0, horizon=30), 1)

    def test_the_first_and_only_number_that_is_undecided(self):
        system = System([FULL, pair(1)], table=[1])
        self.assertEqual(outcome(least_distance, system, 1, 0, horizon=9), "undecided")

    def test_costs_and_deadlines_against_the_words(self):
        random = Random(60)
        seen = {}
        for _ in range(60):
            system = random_system(random, tasks=2)
            horizon = random.choice((6, 14, 24))
            for number, task in enumerate(system.tasks):
                for kind, (name, cost, deadline) in enumerate(task.kinds):
                    systems = ((n, with_kind(system, number, kind, cost=n)) for n in range(cost, 1001))
                    expected = slow_give(systems, horizon)
                    self.assertEqual(outcome(most_cost, system, number, name, horizon=horizon), expected)
                    seen[type(expected)] = seen.get(type(expected), 0) + 1
                    systems = ((n, with_kind(system, number, kind, deadline=n)) for n in range(deadline, 0, -1))
                    expected = slow_give(systems, horizon)
                    self.assertEqual(outcome(least_deadline, system, number, name, horizon=horizon), expected)
        self.assertEqual(len(seen), 3)

    def test_distances_against_the_words(self):
        random = Random(61)
        for _ in range(200):
            system = random_system(random, tasks=2, most=6)
            horizon = random.choice((6, 14, 24))
            for number, task in enumerate(system.tasks):
                for way, (_, _, distance) in enumerate(task.ways):
                    systems = [(n, with_distance(system, number, way, n)) for n in range(distance, 0, -1)]
                    expected = slow_give(systems, horizon)
                    self.assertEqual(outcome(least_distance, system, number, way, horizon=horizon), expected)

    def test_capacities_against_the_words(self):
        random = Random(62)
        for _ in range(200):
            system = random_system(random, tasks=2)
            system = system.with_table([units + random.randint(0, 5) for units in system.table])
            horizon = random.choice((6, 14, 24))
            systems = [
                (amount, system.with_table([units - amount for units in system.table]))
                for amount in range(min(system.table) + 1)
            ]
            expected = slow_give(systems, horizon)
            self.assertEqual(outcome(spare_capacity, system, horizon=horizon), expected)

    def test_the_system_does_not_change(self):
        system = System([lone("t", 1, 9, 9)], table=[3])
        most_cost(system, 0, "k", horizon=60)
        least_deadline(system, 0, "k", horizon=60)
        least_distance(system, 0, 0, horizon=60)
        spare_capacity(system, horizon=60)
        self.assertEqual(system.tasks[0].kinds, (("k", 1, 9),))
        self.assertEqual(system.tasks[0].ways, (("k", "k", 9),))
        self.assertEqual(system.table, (3,))


class Point60(unittest.TestCase):
    def test_safe_up_to_the_result_and_not_with_the_next_number(self):
        system = System([engine_circle(), lone("t", 2, 6, 7)], table=[1])
        found = most_cost(system, 0, "a", horizon=60)
        for cost in range(1, found + 1):
            self.assertIs(is_never_late(with_kind(system, 0, 0, cost=cost)), True)
        self.assertIs(is_never_late(with_kind(system, 0, 0, cost=found + 1)), False)
        found = least_deadline(system, 1, "k", horizon=60)
        for deadline in range(found, 7):
            self.assertIs(is_never_late(with_kind(system, 1, 0, deadline=deadline)), True)
        self.assertIs(is_never_late(with_kind(system, 1, 0, deadline=found - 1)), False)
        found = least_distance(system, 1, 0, horizon=60)
        for distance in range(found, 8):
            self.assertIs(is_never_late(with_distance(system, 1, 0, distance)), True)
        self.assertIs(is_never_late(with_distance(system, 1, 0, found - 1)), False)


if __name__ == "__main__":
    unittest.main()
