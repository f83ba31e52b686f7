"""neverlate.schedules: points 36 to 39."""

import unittest
from functools import lru_cache
from random import Random

from neverlate.edf import crowded, run
from neverlate.errors import InvalidReleases, InvalidSchedule
from neverlate.releases import all_jobs, last_due
from neverlate.schedules import check_schedule, ends_of, keeps, late_by, unused
from neverlate.supply import capacity
from neverlate.tasks import System, Task
from samples import lone, random_releases, random_system

CALLS = (check_schedule, ends_of, late_by, keeps)


def some_schedule_keeps(system, releases):
    """Search all schedules that serve unit by unit for one by which no job is late."""
    jobs = all_jobs(system, releases)

    @lru_cache(maxsize=None)
    def search(time, room, needed):
        if not any(needed):
            return True
        if any(left and job[0] <= time for left, job in zip(needed, jobs)):
            return False
        if room == 0:
            return search(time + 1, capacity(system.table, time + 1), needed)
        choices = [at for at, job in enumerate(jobs) if needed[at] and job[1] <= time]
        return search(time + 1, capacity(system.table, time + 1), needed) or any(
            search(time, room - 1, needed[:at] + (needed[at] - 1,) + needed[at + 1:]) for at in choices
        )

    return search(0, capacity(system.table, 0), tuple(job[4] for job in jobs))


def random_schedule(random, system, releases, slots):
    """A valid schedule of so many slots."""
    needed = {job[2:4]: job[4] for job in all_jobs(system, releases)}
    schedule = []
    for time in range(slots):
        room = capacity(system.table, time)
        slot = []
        jobs = [job for job in needed if releases[job[0]][job[1]][0] <= time and needed[job]]
        random.shuffle(jobs)
        for job in jobs:
            units = random.randint(0, min(room, needed[job]))
            if units:
                slot.append((*job, units))
                needed[job] -= units
                room -= units
        schedule.append(slot)
    return schedule


class Schedules(unittest.TestCase):
    def setUp(self):
        task = Task("t", kinds=[("a", 3, 6), ("b", 2, 4)], ways=[("a", "b", 2)])
        self.system = System([task, lone("u", 4, 5)], table=[3, 0, 2])
        self.releases = [[(0, "a"), (2, "b")], [(2, "k")]]

    def breaks(self, number, slots, releases=None):
        """Every function names this slot."""
        for call in CALLS:
            with self.subTest((call, slots)), self.assertRaises(InvalidSchedule) as caught:
                call(self.system, releases or self.releases, slots)
            self.assertEqual(caught.exception.slot, number)


class Point36(Schedules):
    def test_valid_schedules(self):
        for slots in (
            [],
            [[]],
            [[(0, 0, 3)]],
            [[], [], [(0, 1, 1), (0, 0, 1)], [(1, 0, 2), (0, 0, 1)]],
            [[], [], [(1, 0, 1), (0, 1, 1)]],
            [[]] * 60 + [[(1, 0, 3)]],
        ):
            with self.subTest(slots):
                self.assertIsNone(check_schedule(self.system, self.releases, slots))

    def test_numbers_of_tasks(self):
        for task in (-1, -2, 2, 100):
            self.breaks(2, [[], [], [(task, 0, 1)]])

    def test_numbers_of_releases(self):
        for task, release in ((0, 2), (0, -1), (1, 1), (1, -1)):
            self.breaks(3, [[], [], [(0, 0, 1)], [(0, 0, 1), (task, release, 1)]])

    def test_a_system_without_tasks(self):
        self.system = System([], table=[3])
        for call in CALLS:
            with self.assertRaises(InvalidSchedule):
                call(self.system, [], [[(0, 0, 1)]])
        self.assertIsNone(check_schedule(self.system, [], [[], []]))

    def test_units(self):
        for units in (0, -1):
            self.breaks(0, [[(0, 0, units)]])
        self.breaks(2, [[], [], [(0, 0, 3), (0, 1, -1)]])

    def test_a_job_twice_in_a_slot(self):
        self.breaks(0, [[(0, 0, 1), (0, 0, 1)]])
        self.breaks(3, [[], [], [], [(0, 0, 1), (1, 0, 1), (0, 0, 1)]])
        self.assertIsNone(check_schedule(self.system, self.releases, [[(0, 0, 1)], [], [(0, 0, 1)]]))

    def test_a_job_before_its_release(self):
        wide = self.system.with_table([3])
        self.assertIsNone(check_schedule(wide, self.releases, [[], [], [(1, 0, 1)]]))
        for call in CALLS:
            with self.assertRaises(InvalidSchedule) as caught:
                call(wide, self.releases, [[], [(1, 0, 1)]])
            self.assertEqual(caught.exception.slot, 1)

    def test_more_units_than_the_capacity(self):
        self.breaks(2, [[], [], [(0, 0, 1), (0, 1, 2)]])
        self.breaks(1, [[], [(0, 0, 1)]])
        self.breaks(2, [[], [], [(1, 0, 3)]])

    def test_more_units_than_the_cost(self):
        self.breaks(3, [[(0, 0, 2)], [], [], [(0, 0, 2)]])
        self.breaks(3, [[(0, 0, 3)], [], [], [(0, 0, 1)]])
        wide = self.system.with_table([9])
        with self.assertRaises(InvalidSchedule) as caught:
            check_schedule(wide, self.releases, [[(0, 0, 4)]])
        self.assertEqual(caught.exception.slot, 0)

    def test_the_first_slot_that_breaks_a_rule(self):
        self.breaks(1, [[], [(9, 9, 1)], [(0, 0, 0)], [(0, 0, 9)]])

    def test_a_job_may_be_served_behind_its_due(self):
        self.assertIsNone(check_schedule(self.system, self.releases, [[]] * 30 + [[(0, 0, 3)]]))

    def test_the_slots_of_a_run_are_valid(self):
        random = Random(22)
        for _ in range(200):
            system = random_system(random, tasks=3)
            releases = [random_releases(random, task) for task in system.tasks]
            outcome = run(system, releases)
            self.assertIsNone(check_schedule(system, releases, outcome.slots))
            self.assertEqual(ends_of(system, releases, outcome.slots), outcome.ends)
            self.assertEqual(late_by(system, releases, outcome.slots), outcome.late)

    def test_arguments_are_not_modified(self):
        slots = [[(0, 0, 1)], [], [(0, 0, 1), (0, 1, 1)]]
        for call in CALLS:
            call(self.system, self.releases, slots)
        self.assertEqual(slots, [[(0, 0, 1)], [], [(0, 0, 1), (0, 1, 1)]])
        self.assertEqual(self.releases, [[(0, "a"), (2, "b")], [(2, "k")]])


class Point37(Schedules):
    def test_releases_that_are_not_legal_go_first(self):
        for slots in ([], [[(9, 9, 9)]], [[(0, 0, 9)]]):
            for call in CALLS:
                with self.assertRaises(InvalidReleases) as caught:
                    call(self.system, [[(0, "a")], [(0, "k"), (9, "k")]], slots)
                error = caught.exception
                self.assertEqual((error.task_number, error.release_number), (1, 1))


class Point38(Schedules):
    def test_examples(self):
        task = Task("first", kinds=[("a", 2, 3)], ways=[])
        system = System([task], table=[1])
        self.assertEqual(late_by(system, [[(0, "a")]], [[], [(0, 0, 1)]]), 3)
        self.assertIs(keeps(system, [[(0, "a")]], [[], [(0, 0, 1)], [(0, 0, 1)]]), True)

    def test_just_done_at_the_due_and_one_instant_later(self):
        system = System([lone("t", 2, 3)], table=[1])
        for slots, end, late in (
            ([[(0, 0, 1)], [(0, 0, 1)]], 2, None),
            ([[], [(0, 0, 1)], [(0, 0, 1)]], 3, None),
            ([[], [(0, 0, 1)], [], [(0, 0, 1)]], 4, 3),
        ):
            self.assertEqual(ends_of(system, [[(0, "k")]], slots), [[end]])
            self.assertEqual(late_by(system, [[(0, "k")]], slots), late)
            self.assertIs(keeps(system, [[(0, "k")]], slots), late is None)

    def test_no_slots(self):
        self.assertEqual(ends_of(self.system, self.releases, []), [[None, None], [None]])
        self.assertEqual(late_by(self.system, self.releases, []), 6)
        self.assertIs(keeps(self.system, self.releases, []), False)
        self.assertIs(keeps(self.system, [[], []], []), True)
        self.assertEqual(ends_of(self.system, [[], []], [[], []]), [[], []])

    def test_more_slots_than_the_last_due(self):
        slots = [[]] * 50 + [[], [(0, 0, 2)], [], [(0, 0, 1)]]
        self.assertEqual(ends_of(self.system, self.releases, slots), [[54, None], [None]])

    def test_the_least_due_of_all_late_jobs(self):
        system = System([lone("a", 1, 5), lone("b", 1, 3), lone("c", 1, 4)], table=[1])
        releases = [[(0, "k")]] * 3
        self.assertEqual(late_by(system, releases, [[(1, 0, 1)]]), 4)
        self.assertEqual(late_by(system, releases, [[(1, 0, 1)], [(2, 0, 1)]]), 5)
        self.assertEqual(late_by(system, releases, [[(0, 0, 1)], [(2, 0, 1)]]), 3)

    def test_unused(self):
        self.assertEqual(unused(self.system, []), [])
        self.assertEqual(unused(self.system, [[], [], [(0, 0, 1), (0, 1, 1)], [(0, 0, 1)]]), [3, 0, 0, 2])

    def test_unused_below_zero(self):
        self.assertEqual(unused(self.system, [[(9, 9, 9)], [(0, 0, 1), (0, 0, 2)], [(0, 0, -5)]]), [-6, -3, 7])


class Point39(unittest.TestCase):
    def test_a_run_is_on_time_just_if_some_schedule_keeps_the_releases(self):
        random = Random(23)
        seen = {True: 0, False: 0}
        for _ in range(150):
            system = random_system(random, tasks=2, most=3)
            releases = [random_releases(random, task, count=3, slack=1) for task in system.tasks]
            kept = some_schedule_keeps(system, releases)
            self.assertIs(run(system, releases).on_time, kept)
            self.assertIs(crowded(system, releases) is None, kept)
            seen[kept] += 1
        self.assertGreater(min(seen.values()), 20)

    def test_no_schedule_keeps_releases_with_a_crowded_window(self):
        random = Random(24)
        for _ in range(300):
            system = random_system(random, tasks=2)
            releases = [random_releases(random, task) for task in system.tasks]
            slots = random_schedule(random, system, releases, last_due(system, releases))
            if keeps(system, releases, slots):
                self.assertIsNone(crowded(system, releases))
                self.assertIsNone(run(system, releases).late)


if __name__ == "__main__":
    unittest.main()
