"""neverlate.misses: points 44 to 46 and 51 to 54."""

import unittest
from random import Random

from neverlate.demand import demand, heaviest
from neverlate.edf import run
from neverlate.errors import Undecided
from neverlate.horizons import decisive_horizon
from neverlate.misses import Miss, check_miss, first_miss, first_overfull, is_decided, is_overfull
from neverlate.releases import is_legal, system_work_within
from neverlate.rounds import rounds
from neverlate.supply import supply
from neverlate.tasks import System, Task
from samples import engine_circle, lone, random_releases, random_system


def slow_overfull(system, start, length):
    """Point 44, word by word."""
    needed = sum([demand(task, length) for task in system.tasks])
    return needed > supply(system.table, start, start + length)


def slow_first(system, horizon):
    """Point 45, word by word."""
    windows = [
        (end, -start)
        for end in range(1, horizon + 1)
        for start in range(end)
        if slow_overfull(system, start, end - start)
    ]
    if not windows:
        return None
    end, start = min(windows)
    return (end, -start)


def fields(miss):
    return (miss.instant, miss.start, miss.releases)


class Point44(unittest.TestCase):
    def test_just_not_overfull_and_by_one_unit(self):
        for cost, overfull in ((4, False), (5, True)):
            system = System([lone("t", cost, 3)], table=[2, 0])
            self.assertIs(is_overfull(system, start=0, length=3), overfull)
        for cost, overfull in ((2, False), (3, True)):
            system = System([lone("t", cost, 3)], table=[2, 0])
            self.assertIs(is_overfull(system, start=1, length=3), overfull)

    def test_the_demands_of_all_tasks_count(self):
        tasks = [lone("t", 1, 1), lone("u", 1, 2), lone("v", 1, 3)]
        system = System(tasks, table=[2, 0, 0, 1])
        found = [is_overfull(system, start=0, length=length) for length in range(5)]
        self.assertEqual(found, [False, False, False, True, False])

    def test_a_window_behind_the_first_round_of_the_table(self):
        system = System([lone("t", 2, 2)], table=[3, 0, 1, 2])
        found = [is_overfull(system, start=start, length=2) for start in range(12)]
        self.assertEqual(found, [False, True, False, False] * 3)
        for start in (1, 4 * 10 ** 9 + 1):
            self.assertIs(is_overfull(system, start=start, length=2), True)
        self.assertIs(is_overfull(system, start=4 * 10 ** 9, length=2), False)

    def test_a_window_of_the_length_0(self):
        self.assertIs(is_overfull(System([lone("t", 1, 1)], table=[0]), start=0, length=0), False)

    def test_without_tasks(self):
        self.assertIs(is_overfull(System([], table=[0]), start=0, length=9), False)

    def test_against_the_words(self):
        random = Random(44)
        for _ in range(60):
            system = random_system(random)
            for start in range(7):
                for length in range(8):
                    expected = slow_overfull(system, start, length)
                    self.assertIs(is_overfull(system, start=start, length=length), expected)


class Point45(unittest.TestCase):
    def test_the_least_end(self):
        # Any job of two units within two slots of one unit is late if it meets the slot without units.
        system = System([lone("t", 2, 2)], table=[1, 1, 1, 0])
        self.assertEqual(first_overfull(system, horizon=9), (4, 2))

    def test_of_the_least_end_the_greatest_start(self):
        system = System([Task("t", kinds=[("a", 9, 3), ("b", 3, 2)])], table=[3, 0, 2, 9])
        self.assertIs(is_overfull(system, start=0, length=3), True)
        self.assertIs(is_overfull(system, start=1, length=2), True)
        self.assertEqual(first_overfull(system, horizon=9), (3, 1))

    def test_a_horizon_that_just_reaches_the_end_and_one_less(self):
        system = System([lone("t", 2, 2)], table=[1, 1, 1, 0])
        self.assertEqual(first_overfull(system, horizon=4), (4, 2))
        self.assertIsNone(first_overfull(system, horizon=3))
        self.assertIsNone(first_overfull(system, horizon=1))

    def test_a_window_that_ends_behind_several_rounds(self):
        system = System([lone("t", 9, 10, 7)], table=[1, 2, 1, 0, 2])
        self.assertEqual(first_overfull(system, horizon=99), (54, 2))
        self.assertEqual(first_overfull(system, horizon=54), (54, 2))
        self.assertIsNone(first_overfull(system, horizon=53))

    def test_without_tasks(self):
        self.assertIsNone(first_overfull(System([], table=[0]), horizon=1000))

    def test_a_table_that_is_longer_than_the_horizon(self):
        system = System([lone("t", 1, 1)], table=[1] * 700 + [0] * 301)
        self.assertEqual(first_overfull(system, horizon=1000), (701, 700))
        self.assertIsNone(first_overfull(system, horizon=700))

    def test_against_the_words(self):
        random = Random(45)
        for _ in range(150):
            system = random_system(random, tasks=3)
            for horizon in (1, 3, 12):
                self.assertEqual(first_overfull(system, horizon=horizon), slow_first(system, horizon))


class Point46(unittest.TestCase):
    def test_fields(self):
        releases = [[(0, "k")], []]
        miss = Miss(3, 1, releases)
        releases[0].append((9, "k"))
        releases.append([])
        self.assertEqual(fields(miss), (3, 1, [[(0, "k")], []]))

    def test_the_heaviest_releases_are_shifted_by_the_start(self):
        random = Random(46)
        seen = 0
        for _ in range(200):
            system = random_system(random, tasks=3)
            window = first_overfull(system, horizon=16)
            if window is None:
                continue
            end, start = window
            miss = first_miss(system, horizon=16)
            expected = [
                [(time + start, kind) for time, kind in heaviest(task, end - start)] for task in system.tasks
            ]
            self.assertEqual(fields(miss), (end, start, expected))
            work = system_work_within(system, miss.releases, start=start, end=end)
            self.assertGreater(work, supply(system.table, start, end))
            seen += start > 0
        self.assertGreater(seen, 20)


class Point51(unittest.TestCase):
    def test_without_tasks(self):
        for table in ([0], [0, 0, 0], [1, 2, 3]):
            self.assertIs(is_decided(System([], table=table), horizon=1), True)

    def test_a_decisive_horizon_that_is_just_the_horizon_and_one_greater(self):
        system = System([engine_circle()], table=[0, 1, 1, 0, 0, 0, 0, 9])
        decisive = decisive_horizon(system)
        self.assertGreater(decisive, 7)
        self.assertIsNone(rounds(system, horizon=decisive - 1))
        self.assertIs(is_decided(system, horizon=decisive), True)
        self.assertIs(is_decided(system, horizon=decisive - 1), False)

    def test_rows_that_come_round(self):
        system = System([lone("t", 4, 4, 4)], table=[1])
        self.assertIsNone(decisive_horizon(system))
        self.assertIs(is_decided(system, horizon=13), True)
        self.assertIs(is_decided(system, horizon=12), False)

    def test_an_overfull_window_does_not_matter(self):
        system = System([lone("t", 4, 1, 5)], table=[1])
        self.assertIsNotNone(first_overfull(system, horizon=100))
        self.assertIs(is_decided(system, horizon=100), True)
        self.assertIs(is_decided(System([lone("t", 6, 1, 5)], table=[1]), horizon=100), False)

    def test_against_the_words(self):
        random = Random(53)
        for _ in range(150):
            system = random_system(random, tasks=2)
            for horizon in (1, 6, 14, 30):
                decisive = decisive_horizon(system)
                expected = (
                    len(system.tasks) == 0
                    or decisive is not None and decisive <= horizon
                    or rounds(system, horizon=horizon) is not None
                )
                self.assertIs(is_decided(system, horizon=horizon), expected)


class Point52(unittest.TestCase):
    def test_example(self):
        miss = first_miss(System([engine_circle()], table=[0, 1]), horizon=20)
        self.assertEqual(fields(miss), (3, 0, [[(0, "b")]]))

    def test_never_late(self):
        self.assertIsNone(first_miss(System([engine_circle()], table=[1]), horizon=20))
        self.assertIsNone(first_miss(System([], table=[0]), horizon=1))

    def test_undecided_with_its_field(self):
        system = System([lone("t", 4, 4, 4)], table=[1])
        for horizon in (1, 12):
            with self.assertRaises(Undecided) as caught:
                first_miss(system, horizon=horizon)
            self.assertEqual(caught.exception.horizon, horizon)
        self.assertIsNone(first_miss(system, horizon=13))

    def test_a_miss_needs_no_decision(self):
        system = System([lone("t", 6, 6, 5)], table=[1])
        self.assertIs(is_decided(system, horizon=99), False)
        self.assertEqual(fields(first_miss(system, horizon=99)), (11, 0, [[(0, "k"), (5, "k")]]))
        with self.assertRaises(Undecided):
            first_miss(system, horizon=10)

    def test_several_tasks_with_releases_that_are_shifted(self):
        tasks = [lone("t", 1, 2, 1), lone("u", 1, 3, 9), lone("v", 1, 9)]
        miss = first_miss(System(tasks, table=[2, 2, 2, 0, 2, 0]), horizon=20)
        self.assertEqual(fields(miss), (6, 3, [[(3, "k"), (4, "k")], [(3, "k")], []]))

    def test_the_first_miss_may_be_far(self):
        # Up to 200 + 100 * n there are n + 1 jobs of 113 units; these are more than the slots from n = 7 on.
        system = System([lone("t", 113, 200, 100)], table=[1])
        releases = [(100 * number, "k") for number in range(8)]
        self.assertEqual(fields(first_miss(system, horizon=900)), (900, 0, [releases]))
        self.assertEqual(fields(first_miss(system, horizon=1000)), (900, 0, [releases]))
        with self.assertRaises(Undecided):
            first_miss(system, horizon=899)


class Point53(unittest.TestCase):
    def test_late_just_at_the_instant(self):
        random = Random(54)
        seen = 0
        for _ in range(200):
            system = random_system(random, tasks=3)
            if first_overfull(system, horizon=16) is None:
                continue
            miss = first_miss(system, horizon=16)
            self.assertEqual(run(system, miss.releases).late, miss.instant)
            self.assertTrue(all(is_legal(task, row) for task, row in zip(system.tasks, miss.releases)))
            seen += 1
        self.assertGreater(seen, 50)

    def test_no_job_is_late_before(self):
        random = Random(55)
        for _ in range(120):
            system = random_system(random, tasks=2)
            window = first_overfull(system, horizon=30)
            for _ in range(10):
                late = run(system, [random_releases(random, task, count=4) for task in system.tasks]).late
                if late is not None and late <= 30:
                    self.assertIsNotNone(window)
                    self.assertGreaterEqual(late, window[0])

    def test_without_a_miss_no_job_is_ever_late(self):
        random = Random(56)
        seen = 0
        for _ in range(300):
            system = random_system(random, tasks=2)
            if not system.tasks or first_overfull(system, horizon=40) or not is_decided(system, horizon=40):
                continue
            seen += 1
            for _ in range(8):
                releases = [random_releases(random, task, count=9) for task in system.tasks]
                self.assertIsNone(run(system, releases).late)
        self.assertGreater(seen, 20)


class Point54(unittest.TestCase):
    def setUp(self):
        self.system = System([engine_circle(), lone("t", 2, 2, 3)], table=[1, 2])

    def assert_right(self, expected, instant, start, releases):
        miss = Miss(instant, start, releases)
        self.assertIs(check_miss(self.system, miss), expected)
        self.assertEqual(fields(miss), (instant, start, releases))

    def test_first_misses_are_right(self):
        random = Random(57)
        for _ in range(200):
            system = random_system(random, tasks=3)
            if first_overfull(system, horizon=16) is not None:
                self.assertIs(check_miss(system, first_miss(system, horizon=16)), True)

    def test_just_as_much_work_as_the_supply(self):
        self.assert_right(False, 2, 0, [[(0, "a")], [(0, "k")]])
        self.assert_right(False, 3, 0, [[(0, "b")], [(0, "k")]])
        self.system = self.system.with_table([1, 1])
        self.assert_right(True, 2, 0, [[(0, "a")], [(0, "k")]])
        self.assert_right(True, 3, 0, [[(0, "b")], [(0, "k")]])

    def test_a_miss_that_is_not_the_first_one_with_releases_that_are_not_the_heaviest(self):
        self.system = self.system.with_table([0, 0, 1])
        self.assertEqual(first_miss(self.system, horizon=20).instant, 2)
        self.assert_right(True, 13, 8, [[(9, "b")], [(8, "k")]])
        self.assert_right(True, 13, 8, [[(3, "a"), (9, "b")], [(2, "k"), (8, "k"), (30, "k")]])
        self.assert_right(True, 13, 9, [[(9, "b")], [(8, "k")]])
        self.assert_right(False, 13, 10, [[(9, "b")], [(8, "k")]])
        self.assert_right(False, 11, 8, [[(9, "b")], []])
        self.assert_right(True, 11, 8, [[], [(9, "k")]])

    def test_a_start_below_0(self):
        self.system = self.system.with_table([0])
        self.assert_right(True, 2, 0, [[], [(0, "k")]])
        self.assert_right(False, 2, -1, [[], [(0, "k")]])

    def test_a_start_that_is_not_less_than_the_instant(self):
        self.system = self.system.with_table([0])
        for start in (2, 3, 99):
            self.assert_right(False, 2, start, [[], [(0, "k")]])
            self.assert_right(False, 2, start, [[], []])
        self.assert_right(False, 0, 0, [[], []])

    def test_releases_that_are_not_legal(self):
        self.system = self.system.with_table([0])
        self.assert_right(True, 9, 0, [[], [(0, "k"), (3, "k")]])
        self.assert_right(False, 9, 0, [[], [(0, "k"), (2, "k")]])
        self.assert_right(False, 9, 0, [[], [(3, "k"), (0, "k")]])
        self.assert_right(False, 9, 0, [[(20, "a"), (23, "b")], [(0, "k")]])
        self.assert_right(True, 9, 0, [[(20, "a"), (24, "b")], [(0, "k")]])

    def test_a_kind_that_the_task_does_not_have(self):
        self.system = self.system.with_table([0])
        for row in ([(0, "c")], [(0, "k")], [(0, "a"), (9, "c")]):
            self.assert_right(False, 9, 0, [row, [(0, "k")]])
        self.assert_right(False, 9, 0, [[(0, "a")], [(0, "a")]])

    def test_another_number_of_lists(self):
        self.system = self.system.with_table([0])
        self.assert_right(True, 9, 0, [[(0, "a")], [(0, "k")]])
        for releases in ([], [[(0, "a")]], [[(0, "a")], [(0, "k")], []]):
            self.assert_right(False, 9, 0, releases)
        self.system = System([], table=[0])
        self.assert_right(False, 9, 0, [])
        self.assert_right(False, 9, 0, [[]])

    def test_work_outside_of_the_window_does_not_count(self):
        self.system = self.system.with_table([0])
        self.assert_right(True, 5, 3, [[], [(3, "k")]])
        self.assert_right(False, 4, 3, [[], [(3, "k")]])
        self.assert_right(False, 5, 4, [[], [(3, "k")]])


if __name__ == "__main__":
    unittest.main()
