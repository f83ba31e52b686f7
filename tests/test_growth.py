"""neverlate.growth: points 126 to 128."""

import unittest
from random import Random

from neverlate.errors import InvalidSystem, Undecided, UnknownName, UnknownNumber
from neverlate.gives import most_cost, trial
from neverlate.growth import joint_costs
from neverlate.tasks import System, Task
from neverlate.verdicts import is_never_late
from samples import lone, random_system

# Costs in the tests against the words go up to this number alone.
BOUND = 14


def with_costs(system, first, one, second, other):
    """The system in which the two kinds, tuples (task number, kind name), have these costs."""
    tasks = []
    for number, task in enumerate(system.tasks):
        costs = {first: one, second: other}
        kinds = [(name, costs.get((number, name), cost), deadline) for name, cost, deadline in task.kinds]
        tasks.append(Task(task.name, kinds=kinds, ways=task.ways))
    return System(tasks, table=system.table)


def slow_pairs(system, first, second, horizon):
    """Points 126 and 127, word by word: a list or "undecided", or None if a pair is beyond the bound."""
    low = system.tasks[first[0]].cost(first[1])
    least = system.tasks[second[0]].cost(second[1])
    trials = {
        (one, other): trial(with_costs(system, first, one, second, other), horizon=horizon)
        for one in range(low, BOUND + 2) for other in range(least, BOUND + 2)
    }
    reachable = {pair for pair, kind in trials.items() if kind != "fails"}
    if any(max(pair) > BOUND for pair in reachable):
        return None
    greatest = sorted(
        (one, other) for one, other in reachable
        if (one + 1, other) not in reachable and (one, other + 1) not in reachable
    )
    if any(trials[pair] == "undecided" for pair in greatest):
        return "undecided"
    return greatest


def two_kinds(random):
    """A system and two different kinds of its tasks."""
    while True:
        system = random_system(random)
        places = [(number, kind[0]) for number, task in enumerate(system.tasks) for kind in task.kinds]
        if len(places) >= 2:
            return (system, *random.sample(places, 2))


class Growth(unittest.TestCase):
    def pairs(self, system, first, second, horizon):
        try:
            return joint_costs(system, first, second, horizon=horizon)
        except Undecided as error:
            self.assertEqual(error.horizon, horizon)
            return "undecided"

    def raises(self, error, value, system, first, second):
        with self.assertRaises(error) as caught:
            joint_costs(system, first, second, horizon=30)
        if value is not None:
            self.assertEqual(list(vars(caught.exception).values()), [value])


class Point126(Growth):
    def test_example(self):
        system = System([Task("a", kinds=[("x", 1, 4)]), Task("b", kinds=[("x", 1, 4)])], table=[1])
        self.assertEqual(joint_costs(system, (0, "x"), (1, "x"), horizon=30), [(1, 3), (2, 2), (3, 1)])
        self.assertEqual(joint_costs(system, (1, "x"), (0, "x"), horizon=30), [(1, 3), (2, 2), (3, 1)])

    def test_two_kinds_of_the_same_task(self):
        # They follow each other within 4, where there are 4 units.
        task = Task("t", kinds=[("a", 1, 2), ("b", 1, 2)], ways=[("a", "b", 2), ("b", "a", 9)])
        system = System([task], table=[1])
        self.assertEqual(joint_costs(system, (0, "a"), (0, "b"), horizon=60), [(2, 2)])
        task = Task("t", kinds=[("a", 1, 4), ("b", 1, 2)], ways=[("a", "b", 2), ("b", "a", 9)])
        self.assertEqual(
            joint_costs(System([task], table=[1]), (0, "a"), (0, "b"), horizon=60), [(2, 2), (3, 1)]
        )
        self.assertEqual(
            joint_costs(System([task], table=[1]), (0, "b"), (0, "a"), horizon=60), [(1, 3), (2, 2)]
        )

    def test_not_less_than_the_present_costs(self):
        system = System([lone("a", 2, 4), lone("b", 1, 4)], table=[1])
        self.assertEqual(joint_costs(system, (0, "k"), (1, "k"), horizon=30), [(2, 2), (3, 1)])
        system = System([lone("a", 2, 4), lone("b", 2, 4)], table=[1])
        self.assertEqual(joint_costs(system, (0, "k"), (1, "k"), horizon=30), [(2, 2)])

    def test_the_other_tasks_count(self):
        tasks = [lone("a", 1, 4), lone("b", 1, 4), lone("c", 1, 4)]
        self.assertEqual(joint_costs(System(tasks, table=[1]), (0, "k"), (2, "k"), horizon=30), [(1, 2), (2, 1)])

    def test_costs_that_reach_1000(self):
        # The table bounds neither of them, then one of them, then both together.
        system = System([lone("a", 1, 1), lone("b", 1, 1)], table=[1000000])
        self.assertEqual(joint_costs(system, (0, "k"), (1, "k"), horizon=20), [(1000, 1000)])
        system = System([lone("a", 1, 1), lone("b", 1, 100)], table=[50])
        self.assertEqual(joint_costs(system, (0, "k"), (1, "k"), horizon=200), [(50, 1000)])
        self.assertEqual(joint_costs(system, (1, "k"), (0, "k"), horizon=200), [(1000, 50)])
        system = System([lone("a", 1, 1), lone("b", 1, 1)], table=[1997])
        self.assertEqual(
            joint_costs(system, (0, "k"), (1, "k"), horizon=20), [(997, 1000), (998, 999), (999, 998), (1000, 997)]
        )
        system = System([lone("a", 1000, 1), lone("b", 1000, 1)], table=[2000])
        self.assertEqual(joint_costs(system, (0, "k"), (1, "k"), horizon=20), [(1000, 1000)])

    def test_many_pairs(self):
        system = System([lone("a", 1, 1), lone("b", 1, 1)], table=[1000])
        self.assertEqual(
            joint_costs(system, (0, "k"), (1, "k"), horizon=20), [(one, 1000 - one) for one in range(1, 1000)]
        )

    def test_steps_of_several_costs(self):
        # Three jobs of the second kind count against one of the first one.
        system = System([lone("a", 1, 9), lone("b", 1, 3, 3)], table=[3])
        self.assertEqual(
            joint_costs(system, (0, "k"), (1, "k"), horizon=60),
            [(3, 8), (6, 7), (9, 6), (12, 5), (15, 4), (18, 3), (21, 2), (24, 1)],
        )


class Point127(Growth):
    def test_a_system_whose_trial_fails(self):
        system = System([lone("a", 3, 4), lone("b", 2, 4)], table=[1])
        self.assertEqual(joint_costs(system, (0, "k"), (1, "k"), horizon=30), [])
        system = System([lone("a", 1, 4), lone("b", 1, 4), lone("late", 9, 4)], table=[1])
        self.assertEqual(joint_costs(system, (0, "k"), (1, "k"), horizon=30), [])

    def test_an_undecided_greatest_pair(self):
        # With each greatest pair the load is full, and the rows come round at 13. Smaller costs are decided early.
        system = System([lone("a", 1, 4, 4), lone("b", 1, 4, 4)], table=[1])
        self.assertEqual(trial(system, horizon=12), "holds")
        self.assertEqual(self.pairs(system, (0, "k"), (1, "k"), 12), "undecided")
        self.assertEqual(self.pairs(system, (0, "k"), (1, "k"), 13), [(1, 3), (2, 2), (3, 1)])

    def test_one_undecided_pair_among_others(self):
        task = Task("t", kinds=[("a", 1, 3), ("b", 2, 3)], ways=[("b", "a", 2), ("a", "a", 3), ("a", "a", 4)])
        system = System([task], table=[3, 2])
        kinds = [
            trial(with_costs(system, (0, "b"), one, (0, "a"), other), horizon=10)
            for one, other in ((5, 7), (6, 6), (7, 5))
        ]
        self.assertEqual(kinds, ["undecided", "holds", "holds"])
        self.assertEqual(self.pairs(system, (0, "b"), (0, "a"), 10), "undecided")
        self.assertEqual(self.pairs(system, (0, "b"), (0, "a"), 60), [(5, 7), (6, 6), (7, 5)])

    def test_an_undecided_pair_that_is_not_greatest(self):
        task = Task("t", kinds=[("a", 2, 3), ("b", 2, 2)], ways=[("b", "b", 2), ("b", "a", 2)])
        system = System([task], table=[2])
        for one in range(2, 6):
            self.assertEqual(trial(with_costs(system, (0, "a"), one, (0, "b"), 4), horizon=7), "undecided")
        self.assertEqual(trial(with_costs(system, (0, "a"), 6, (0, "b"), 4), horizon=7), "holds")
        self.assertEqual(joint_costs(system, (0, "a"), (0, "b"), horizon=7), [(6, 4)])

    def test_an_undecided_system(self):
        # The trial of the system itself is undecided, and its pair is not greatest.
        task = Task("t", kinds=[("a", 2, 3), ("b", 4, 2)], ways=[("b", "b", 2), ("b", "a", 2)])
        system = System([task], table=[2])
        self.assertEqual(trial(system, horizon=7), "undecided")
        self.assertEqual(joint_costs(system, (0, "a"), (0, "b"), horizon=7), [(6, 4)])

    def test_the_same_kind_twice(self):
        system = System([lone("a", 1, 4), lone("b", 1, 4)], table=[1])
        self.raises(InvalidSystem, None, system, (0, "k"), (0, "k"))
        self.raises(InvalidSystem, None, system, (1, "k"), (1, "k"))
        # The same name in another task is another kind.
        self.assertEqual(len(joint_costs(system, (0, "k"), (1, "k"), horizon=30)), 3)

    def test_unknown_numbers_and_names(self):
        system = System([lone("a", 1, 4), lone("b", 1, 4)], table=[1])
        for number in (2, -1, -2, 10 ** 30):
            self.raises(UnknownNumber, number, system, (number, "k"), (1, "k"))
            self.raises(UnknownNumber, number, system, (0, "k"), (number, "k"))
        for name in ("x", "", "K", "k "):
            self.raises(UnknownName, name, system, (0, name), (1, "k"))
            self.raises(UnknownName, name, system, (0, "k"), (1, name))
        self.raises(UnknownNumber, 0, System([], table=[1]), (0, "k"), (0, "k"))

    def test_which_error_comes_first(self):
        system = System([lone("a", 1, 4), lone("b", 1, 4)], table=[1])
        self.raises(UnknownNumber, 7, system, (7, "x"), (8, "y"))
        self.raises(UnknownName, "x", system, (0, "x"), (8, "y"))
        self.raises(UnknownNumber, 8, system, (0, "k"), (8, "y"))
        self.raises(UnknownName, "y", system, (0, "k"), (0, "y"))
        self.raises(UnknownName, "x", system, (0, "x"), (0, "x"))
        self.raises(UnknownNumber, 7, system, (7, "k"), (7, "k"))
        # These errors come before a trial that fails, and before one that is undecided.
        self.raises(InvalidSystem, None, system.with_table([0]), (0, "k"), (0, "k"))

    def test_against_the_words(self):
        random = Random(127)
        seen = {}
        for _ in range(120):
            system, first, second = two_kinds(random)
            horizon = random.randint(4, 25)
            expected = slow_pairs(system, first, second, horizon)
            if expected is None:
                continue
            self.assertEqual(self.pairs(system, first, second, horizon), expected)
            seen[expected if expected == "undecided" else min(len(expected), 3), first[0] == second[0]] = True
        self.assertGreaterEqual(len(seen), 6)

    def test_the_system_stays_as_it_was(self):
        system = System([lone("a", 1, 4), lone("b", 1, 4)], table=[1])
        joint_costs(system, (0, "k"), (1, "k"), horizon=30).append("more")
        self.assertEqual([task.kinds for task in system.tasks], [(("k", 1, 4),), (("k", 1, 4),)])
        self.assertEqual(joint_costs(system, (0, "k"), (1, "k"), horizon=30), [(1, 3), (2, 2), (3, 1)])


class Point128(Growth):
    def test_pairs_below_a_pair_of_the_list_and_no_others_are_safe(self):
        random = Random(128)
        seen = {}
        for _ in range(60):
            system, first, second = two_kinds(random)
            found = self.pairs(system, first, second, 40)
            if found == "undecided":
                continue
            low = system.tasks[first[0]].cost(first[1])
            least = system.tasks[second[0]].cost(second[1])
            for one in range(low, low + 6):
                for other in range(least, least + 6):
                    changed = with_costs(system, first, one, second, other)
                    is_below = any(one <= pair[0] and other <= pair[1] for pair in found)
                    self.assertIs(trial(changed, horizon=40) != "fails", is_below)
                    if is_below:
                        self.assertTrue(is_never_late(changed))
                    seen[is_below] = True
        self.assertEqual(len(seen), 2)

    def test_the_greatest_cost_of_one_kind_alone(self):
        random = Random(129)
        count = 0
        for _ in range(150):
            system, first, second = two_kinds(random)
            found = self.pairs(system, first, second, 40)
            if found in ("undecided", []):
                continue
            self.assertEqual(most_cost(system, *first, horizon=40), found[-1][0])
            self.assertEqual(most_cost(system, *second, horizon=40), found[0][1])
            count += 1
        self.assertGreater(count, 10)


if __name__ == "__main__":
    unittest.main()
