"""neverlate.edf: points 32 to 35."""

import unittest
from random import Random

from neverlate.edf import Outcome, crowded, run
from neverlate.errors import InvalidReleases
from neverlate.releases import all_jobs, last_due, system_work_within
from neverlate.supply import capacity, supply
from neverlate.tasks import System, Task
from samples import engine_circle, lone, random_releases, random_system


def slow_slots(system, releases):
    """Point 32, word by word."""
    needed = {}
    for _, _, task, release, cost in all_jobs(system, releases):
        needed[task, release] = cost
    slots = []
    for time in range(last_due(system, releases)):
        room = capacity(system.table, time)
        slot = []
        for _, released, task, release, _ in all_jobs(system, releases):
            units = min(room, needed[task, release])
            if released <= time and units > 0:
                slot.append((task, release, units))
                needed[task, release] -= units
                room -= units
        slots.append(slot)
    return slots


def slow_ends(releases, slots, system):
    ends = []
    for task, row in enumerate(releases):
        ends.append([])
        for release, (_, kind) in enumerate(row):
            got = 0
            end = None
            for time, slot in enumerate(slots):
                got += sum(units for *job, units in slot if job == [task, release])
                if end is None and got == system.tasks[task].cost(kind):
                    end = time + 1
            ends[task].append(end)
    return ends


def random_runs(seed, count):
    random = Random(seed)
    for _ in range(count):
        system = random_system(random, tasks=3)
        yield system, [random_releases(random, task, count=4) for task in system.tasks]


class Point32(unittest.TestCase):
    def test_example(self):
        first = Task("first", kinds=[("a", 2, 4)], ways=[])
        second = Task("second", kinds=[("b", 1, 2)], ways=[])
        outcome = run(System([first, second], table=[1]), [[(0, "a")], [(1, "b")]])
        self.assertEqual(outcome.slots, [[(0, 0, 1)], [(1, 0, 1)], [(0, 0, 1)], []])
        self.assertEqual(outcome.ends, [[3], [2]])

    def test_the_earliest_due_comes_first(self):
        system = System([lone("a", 1, 5), lone("b", 1, 3), lone("c", 1, 4)], table=[1])
        self.assertEqual(run(system, [[(0, "k")]] * 3).slots, [[(1, 0, 1)], [(2, 0, 1)], [(0, 0, 1)], [], []])

    def test_equal_dues_by_release_times(self):
        system = System([lone("a", 1, 2), lone("b", 1, 4)], table=[0, 0, 1])
        self.assertEqual(run(system, [[(2, "k")], [(0, "k")]]).slots, [[], [], [(1, 0, 1)], []])

    def test_equal_dues_and_times_by_task_numbers(self):
        system = System([lone("b", 1, 3), lone("a", 1, 3)], table=[1])
        self.assertEqual(run(system, [[(0, "k")], [(0, "k")]]).slots, [[(0, 0, 1)], [(1, 0, 1)], []])
        both = System([lone("b", 1, 3), lone("a", 1, 3)], table=[2])
        self.assertEqual(run(both, [[(0, "k")], [(0, "k")]]).slots, [[(0, 0, 1), (1, 0, 1)], [], []])

    def test_release_times_go_before_task_numbers(self):
        task = Task("t", kinds=[("a", 1, 4), ("b", 1, 3)], ways=[("a", "b", 1)])
        system = System([task, lone("u", 1, 4)], table=[0, 1])
        releases = [[(0, "a"), (1, "b")], [(0, "k")]]
        self.assertEqual(run(system, releases).slots, [[], [(0, 0, 1)], [], [(1, 0, 1)]])
        wide = system.with_table([0, 3])
        self.assertEqual(run(wide, releases).slots, [[], [(0, 0, 1), (1, 0, 1), (0, 1, 1)], [], []])

    def test_release_numbers_of_one_task(self):
        system = System([lone("t", 2, 2, 1)], table=[5])
        self.assertEqual(run(system, [[(0, "k"), (1, "k"), (2, "k")]]).slots, [[(0, 0, 2)], [(0, 1, 2)], [(0, 2, 2)], []])
        task = Task("t", kinds=[("a", 1, 3), ("b", 1, 2)], ways=[("a", "b", 1)])
        late_table = System([task], table=[0, 0, 5])
        self.assertEqual(run(late_table, [[(0, "a"), (1, "b")]]).slots, [[], [], [(0, 0, 1), (0, 1, 1)]])

    def test_a_job_waits_for_its_release(self):
        system = System([lone("t", 1, 2)], table=[5])
        self.assertEqual(run(system, [[(3, "k")]]).slots, [[], [], [], [(0, 0, 1)], []])

    def test_a_job_that_comes_later_but_is_due_earlier(self):
        system = System([lone("a", 3, 9), lone("b", 1, 2)], table=[1])
        expected = [[(0, 0, 1)], [(1, 0, 1)], [(0, 0, 1)], [(0, 0, 1)]] + [[]] * 5
        self.assertEqual(run(system, [[(0, "k")], [(1, "k")]]).slots, expected)

    def test_the_rest_of_a_slot_goes_to_the_next_job(self):
        system = System([lone("a", 3, 1), lone("b", 4, 2)], table=[5])
        self.assertEqual(run(system, [[(0, "k")], [(0, "k")]]).slots, [[(0, 0, 3), (1, 0, 2)], [(1, 0, 2)]])

    def test_a_job_behind_its_due_is_served_in_the_same_order(self):
        system = System([lone("a", 3, 1), lone("b", 1, 5)], table=[1])
        outcome = run(system, [[(0, "k")], [(0, "k")]])
        self.assertEqual(outcome.slots, [[(0, 0, 1)], [(0, 0, 1)], [(0, 0, 1)], [(1, 0, 1)], []])
        self.assertEqual((outcome.ends, outcome.late), ([[3], [4]], 1))

    def test_against_the_words(self):
        for system, releases in random_runs(18, 400):
            self.assertEqual(run(system, releases).slots, slow_slots(system, releases))


class Point33(unittest.TestCase):
    def test_done_just_at_the_due(self):
        for cost, late in ((2, None), (3, None), (4, 3)):
            outcome = run(System([lone("t", cost, 3)], table=[1]), [[(0, "k")]])
            self.assertEqual(outcome.late, late)
            self.assertIs(outcome.on_time, late is None)

    def test_the_least_due_of_all_late_jobs(self):
        system = System([lone("a", 9, 5), lone("b", 1, 6), lone("c", 9, 7)], table=[1])
        self.assertEqual(run(system, [[(0, "k")]] * 3).late, 5)
        self.assertEqual(run(system, [[], [(0, "k")], [(0, "k")]]).late, 7)
        self.assertIsNone(run(system, [[], [(0, "k")], []]).late)

    def test_a_job_that_is_never_done_is_late(self):
        outcome = run(System([lone("t", 1, 3)], table=[0]), [[(2, "k")]])
        self.assertEqual((outcome.slots, outcome.ends, outcome.late), ([[]] * 5, [[None]], 5))

    def test_against_the_words(self):
        for system, releases in random_runs(19, 300):
            outcome = run(system, releases)
            late = [
                due
                for due, _, task, release, _ in all_jobs(system, releases)
                if outcome.ends[task][release] is None or outcome.ends[task][release] > due
            ]
            self.assertEqual(outcome.late, min(late, default=None))


class Point34(unittest.TestCase):
    def test_no_releases(self):
        for system in (System([], table=[1]), System([engine_circle()], table=[1])):
            outcome = run(system, [[] for _ in system.tasks])
            self.assertEqual((outcome.slots, outcome.ends), ([], [[] for _ in system.tasks]))
            self.assertIsNone(outcome.late)
            self.assertIs(outcome.on_time, True)

    def test_a_task_without_releases(self):
        system = System([lone("a", 1, 2), lone("b", 1, 3)], table=[1])
        outcome = run(system, [[], [(0, "k")]])
        self.assertEqual((outcome.slots, outcome.ends), ([[(1, 0, 1)], [], []], [[], [1]]))

    def test_as_many_slots_as_the_last_due(self):
        self.assertEqual(len(run(System([lone("t", 1, 1000)], table=[1]), [[(4000, "k")]]).slots), 5000)

    def test_capacities_of_0(self):
        outcome = run(System([lone("t", 2, 6)], table=[0, 1, 0]), [[(0, "k")]])
        self.assertEqual(outcome.slots, [[], [(0, 0, 1)], [], [], [(0, 0, 1)], []])
        self.assertEqual(outcome.ends, [[5]])

    def test_ends_behind_the_due_and_behind_the_slots(self):
        system = System([lone("t", 3, 2, 2)], table=[1])
        outcome = run(system, [[(0, "k"), (2, "k")]])
        self.assertEqual((outcome.ends, outcome.late), ([[3, None]], 2))

    def test_releases_that_are_not_legal(self):
        system = System([engine_circle(), lone("t", 1, 1)], table=[1])
        for call in (run, crowded):
            with self.assertRaises(InvalidReleases) as caught:
                call(system, [[(0, "a")], [(0, "k"), (9, "k")]])
            error = caught.exception
            self.assertEqual((error.task_number, error.release_number), (1, 1))
            with self.assertRaises(InvalidReleases):
                call(system, [[(0, "x")], []])

    def test_releases_are_not_modified(self):
        releases = [[(0, "k"), (2, "k")]]
        system = System([lone("t", 3, 2, 2)], table=[1])
        run(system, releases)
        crowded(system, releases)
        self.assertEqual(releases, [[(0, "k"), (2, "k")]])

    def test_the_fields_are_copies(self):
        slots = [[(0, 0, 1)], []]
        ends = [[1], []]
        outcome = Outcome(slots, ends, None)
        slots[0].clear()
        slots.append([])
        ends[0].append(7)
        ends.clear()
        self.assertEqual((outcome.slots, outcome.ends), ([[(0, 0, 1)], []], [[1], []]))

    def test_an_outcome_takes_any_values(self):
        outcome = Outcome([[(5, 9, 100)]], [[None, 3]], 77)
        self.assertEqual((outcome.slots, outcome.ends, outcome.late), ([[(5, 9, 100)]], [[None, 3]], 77))
        self.assertIs(outcome.on_time, False)
        self.assertIs(Outcome([], [], None).on_time, True)
        self.assertIs(Outcome([], [], 0).on_time, False)

    def test_slots_of_a_job(self):
        outcome = Outcome([[(0, 0, 1), (1, 0, 2)], [], [(1, 0, 3), (0, 1, 4)], [(0, 0, 5)]], [[4, 3], [3]], None)
        self.assertEqual(outcome.served(0, 0), [(0, 1), (3, 5)])
        self.assertEqual(outcome.served(1, 0), [(0, 2), (2, 3)])
        self.assertEqual(outcome.served(0, 1), [(2, 4)])

    def test_slots_of_numbers_that_do_not_occur(self):
        outcome = run(System([lone("a", 2, 6)], table=[1]), [[(0, "k")]])
        for task, release in ((0, 1), (1, 0), (-1, 0), (0, -1), (9, 9)):
            self.assertEqual(outcome.served(task, release), [])

    def test_served_list_is_new(self):
        outcome = run(System([lone("a", 2, 6)], table=[1]), [[(0, "k")]])
        outcome.served(0, 0).clear()
        self.assertEqual(outcome.served(0, 0), [(0, 1), (1, 1)])

    def test_against_the_words(self):
        for system, releases in random_runs(20, 200):
            outcome = run(system, releases)
            self.assertEqual(len(outcome.slots), last_due(system, releases))
            self.assertEqual(outcome.ends, slow_ends(releases, outcome.slots, system))


class Point35(unittest.TestCase):
    def test_example(self):
        task = Task("first", kinds=[("a", 2, 3)], ways=[])
        self.assertEqual(crowded(System([task], table=[0, 1]), [[(2, "a")]]), (2, 5))

    def test_no_job_is_late(self):
        self.assertIsNone(crowded(System([lone("t", 3, 3)], table=[1]), [[(0, "k")]]))
        self.assertIsNone(crowded(System([], table=[1]), []))

    def test_jobs_before_the_release_of_the_late_one_count(self):
        system = System([lone("a", 3, 3), lone("b", 1, 2)], table=[1])
        self.assertEqual(crowded(system, [[(0, "k")], [(1, "k")]]), (0, 3))

    def test_the_greatest_start(self):
        system = System([lone("t", 5, 2, 3)], table=[1])
        self.assertEqual(crowded(system, [[(0, "k"), (3, "k")]]), (0, 2))
        system = System([lone("a", 2, 9, 1), lone("b", 9, 4)], table=[1])
        self.assertEqual(crowded(system, [[(0, "k"), (1, "k")], [(5, "k")]]), (5, 9))

    def test_jobs_that_are_due_later_do_not_count(self):
        system = System([lone("a", 1, 9), lone("b", 3, 2)], table=[1])
        self.assertEqual(crowded(system, [[(1, "k")], [(0, "k")]]), (0, 2))

    def test_against_all_starts(self):
        windows = 0
        for system, releases in random_runs(21, 400):
            end = run(system, releases).late
            if end is None:
                self.assertIsNone(crowded(system, releases))
                continue
            starts = [
                start
                for start in range(end)
                if system_work_within(system, releases, start=start, end=end) > supply(system.table, start, end)
            ]
            self.assertEqual(crowded(system, releases), (max(starts), end))
            windows += 1
        self.assertGreater(windows, 100)


if __name__ == "__main__":
    unittest.main()
