"""neverlate.waiting: points 64 to 66."""

import unittest
from random import Random

from neverlate.demand import demand, heaviest
from neverlate.errors import Undecided
from neverlate.releases import check_releases
from neverlate.rounds import rounds
from neverlate.supply import capacity, supply
from neverlate.tasks import System, Task
from neverlate.waiting import Backlog, most_waiting
from samples import engine, engine_circle, lone, random_releases, random_system


def eager(system):
    """The eager system of point 64."""
    tasks = [
        Task(task.name, kinds=[(name, cost, 1) for name, cost, _ in task.kinds], ways=task.ways)
        for task in system.tasks
    ]
    return System(tasks, table=system.table)


def fields(backlog):
    return (backlog.work, backlog.instant, backlog.start, backlog.releases)


def slow_backlog(system, horizon):
    """Point 65, word by word."""
    quick = eager(system)
    if system.tasks and rounds(quick, horizon=horizon) is None:
        return "undecided"
    windows = []
    for end in range(1, horizon + 1):
        for start in range(end):
            needed = sum(demand(task, end - start) for task in quick.tasks)
            windows.append((-needed + supply(system.table, start, end), end, -start))
    excess, end, start = min(windows)
    if not system.tasks or -excess <= 0:
        return (0, 0, 0, [[] for _ in system.tasks])
    releases = [
        [(time - start, kind) for time, kind in heaviest(task, end + start)] for task in quick.tasks
    ]
    return (-excess, end, -start, releases)


def found_backlog(system, horizon):
    try:
        return fields(most_waiting(system, horizon=horizon))
    except Undecided as error:
        assert error.horizon == horizon
        return "undecided"


def waits(system, releases, last):
    """The work that waits at the instants 0, 1, .., last on a busy processor (point 64)."""
    waiting = 0
    found = [0]
    for time in range(last):
        for task, row in zip(system.tasks, releases):
            waiting += sum(task.cost(kind) for released, kind in row if released == time)
        waiting = max(0, waiting - capacity(system.table, time))
        found.append(waiting)
    return found


class Point64(unittest.TestCase):
    def test_deadlines_have_no_effect(self):
        for deadline in (1, 2, 50, 1000):
            system = System([lone("t", 3, deadline, 4)], table=[1])
            self.assertEqual(found_backlog(system, 20), (2, 1, 0, [[(0, "k")]]))

    def test_the_system_does_not_change(self):
        system = System([lone("t", 3, 9, 4)], table=[1])
        most_waiting(system, horizon=20)
        self.assertEqual(system.tasks[0].kinds, (("k", 3, 9),))


class Point65(unittest.TestCase):
    def test_example(self):
        task = Task("a", kinds=[("x", 3, 9)], ways=[("x", "x", 4)])
        backlog = most_waiting(System([task], table=[1]), horizon=20)
        self.assertEqual(fields(backlog), (2, 1, 0, [[(0, "x")]]))

    def test_fields(self):
        releases = [[(0, "k")], []]
        backlog = Backlog(4, 3, 1, releases)
        releases[0].append((9, "k"))
        releases.append([])
        self.assertEqual(fields(backlog), (4, 3, 1, [[(0, "k")], []]))

    def test_without_tasks(self):
        for table in ([0], [0, 0, 0], [5]):
            for horizon in (1, 1000):
                self.assertEqual(found_backlog(System([], table=table), horizon), (0, 0, 0, []))

    def test_no_excess_above_0(self):
        system = System([lone("t", 3, 9, 4), lone("u", 2, 9, 4)], table=[5])
        self.assertEqual(found_backlog(system, 20), (0, 0, 0, [[], []]))

    def test_the_smallest_end(self):
        # At 1, at 5, at 9 and so on the same work waits.
        system = System([lone("t", 4, 9, 4)], table=[1])
        self.assertEqual(found_backlog(system, 20), (3, 1, 0, [[(0, "k")]]))

    def test_the_greatest_start_of_the_smallest_end(self):
        # Within the slots 0 and 1, and within slot 1 alone, 2 units are too much: a second job costs as much
        # as slot 0 offers.
        system = System([lone("t", 3, 9, 1)], table=[3, 1, 9])
        self.assertEqual(found_backlog(system, 20), (2, 2, 1, [[(1, "k")]]))

    def test_a_window_that_is_longer_than_the_table(self):
        task = Task("t", kinds=[("a", 5, 1), ("b", 5, 1), ("c", 5, 1)], ways=[("a", "b", 3), ("b", "c", 3)])
        system = System([task], table=[1, 2, 0])
        self.assertEqual(found_backlog(system, 30), (9, 9, 2, [[(2, "a"), (5, "b"), (8, "c")]]))

    def test_several_tasks(self):
        system = System([engine(), lone("t", 2, 9, 3), lone("u", 1, 1)], table=[2, 0, 1, 1])
        self.assertEqual(found_backlog(system, 40), slow_backlog(system, 40))
        self.assertEqual(found_backlog(system, 40), (5, 2, 1, [[(1, "b")], [(1, "k")], [(1, "k")]]))

    def test_undecided_where_the_eager_rows_do_not_come_round(self):
        system = System([lone("t", 3, 9, 4)], table=[1])
        for horizon, decided in ((1, False), (8, False), (9, True)):
            self.assertIs(rounds(eager(system), horizon=horizon) is not None, decided)
            expected = (2, 1, 0, [[(0, "k")]]) if decided else "undecided"
            self.assertEqual(found_backlog(system, horizon), expected)
        self.assertEqual(found_backlog(System([lone("t", 5, 9, 4)], table=[1]), 1000), "undecided")

    def test_undecided_also_without_excess(self):
        system = System([lone("t", 1, 9, 4)], table=[9])
        self.assertEqual(found_backlog(system, 6), "undecided")
        self.assertEqual(found_backlog(system, 7), (0, 0, 0, [[]]))

    def test_rows_of_the_eager_system_and_not_of_the_system(self):
        system = System([lone("t", 4, 40, 4)], table=[1])
        self.assertIsNone(rounds(system, horizon=20))
        self.assertEqual(found_backlog(system, 20), (3, 1, 0, [[(0, "k")]]))

    def test_against_the_words(self):
        random = Random(65)
        seen = {}
        for _ in range(200):
            system = random_system(random, tasks=3)
            horizon = random.choice((1, 8, 16, 25))
            expected = slow_backlog(system, horizon)
            self.assertEqual(found_backlog(system, horizon), expected)
            seen[expected[0] if expected == "undecided" else min(expected[0], 1)] = True
        self.assertEqual(len(seen), 3)


class Point66(unittest.TestCase):
    def test_no_more_work_ever_waits(self):
        random = Random(66)
        for _ in range(150):
            system = random_system(random, tasks=2)
            found = found_backlog(system, 30)
            if found == "undecided":
                continue
            for _ in range(6):
                releases = [random_releases(random, task, count=12, slack=1) for task in system.tasks]
                self.assertLessEqual(max(waits(system, releases, 60)), found[0])

    def test_just_this_work_waits_at_the_instant(self):
        random = Random(67)
        for _ in range(150):
            system = random_system(random, tasks=3)
            found = found_backlog(system, 30)
            if found == "undecided":
                continue
            work, instant, _, releases = found
            check_releases(system, releases)
            self.assertEqual(waits(system, releases, 60)[instant], work)

    def test_engine(self):
        work, instant, _, releases = found_backlog(System([engine_circle()], table=[1, 0]), 40)
        self.assertEqual(waits(System([engine_circle()], table=[1, 0]), releases, 40)[instant], work)


if __name__ == "__main__":
    unittest.main()
