"""neverlate.metrics: points 97 to 99."""

import unittest
from random import Random

from neverlate.edf import Outcome, run
from neverlate.metrics import (
    backlog, busy_intervals, full_slots, greatest_lateness, interruptions, latenesses, response_times, units_by_task,
    unused_total,
)
from neverlate.policies import POLICIES, run_policy
from neverlate.releases import due
from neverlate.schedules import unused
from neverlate.tasks import System, Task
from samples import lone, random_releases, random_system

NOTHING = Outcome([], [], None)


def fields(outcome):
    return ([list(slot) for slot in outcome.slots], [list(row) for row in outcome.ends], outcome.late)


def copy_of(releases):
    return [list(row) for row in releases]


def random_outcome(random):
    system = random_system(random, tasks=3)
    releases = [random_releases(random, task, count=4) for task in system.tasks]
    return system, releases, run_policy(system, releases, policy=random.choice(POLICIES))


def jobs(releases):
    return [(task, number) for task, row in enumerate(releases) for number in range(len(row))]


def slow_interruptions(outcome):
    """Point 98, word by word."""
    count = 0
    for task, number in jobs(outcome.ends):
        slots = [slot for slot, _ in outcome.served(task, number)]
        end = outcome.ends[task][number]
        for slot in range(len(outcome.slots) - 1):
            is_done = end is not None and end <= slot + 1
            if slot in slots and not is_done and slot + 1 not in slots:
                count += 1
    return count


def slow_intervals(outcome):
    """Point 98, word by word."""
    count = len(outcome.slots)
    return [
        (start, end)
        for start in range(count)
        for end in range(start + 1, count + 1)
        if all(outcome.slots[start:end])
        and (start == 0 or not outcome.slots[start - 1])
        and (end == count or not outcome.slots[end])
    ]


def slow_backlog(system, releases, outcome):
    """Point 99, word by word."""
    found = []
    for instant in range(len(outcome.slots) + 1):
        costs = [
            task.cost(kind) for task, row in zip(system.tasks, releases) for time, kind in row if time <= instant
        ]
        units = [entry[2] for slot in outcome.slots[:instant] for entry in slot]
        found.append(sum(costs) - sum(units))
    return found


class Metrics(unittest.TestCase):
    def setUp(self):
        task = Task("t", kinds=[("a", 3, 5), ("b", 2, 3)], ways=[("a", "b", 2)])
        self.system = System([task, lone("u", 4, 5)], table=[2, 0, 1])
        self.releases = [[(0, "a"), (2, "b")], [(1, "k")]]
        self.outcome = run(self.system, self.releases)


class Point97(Metrics):
    def test_the_outcome_that_the_tests_take(self):
        self.assertEqual(fields(self.outcome), (
            [[(0, 0, 2)], [], [(0, 0, 1)], [(0, 1, 2)], [], [(1, 0, 1)]],
            [[3, 4], [None]],
            6,
        ))

    def test_response_times(self):
        self.assertEqual(response_times(self.releases, self.outcome), [[3, 2], [None]])

    def test_latenesses(self):
        self.assertEqual(latenesses(self.system, self.releases, self.outcome), [[-2, -1], [None]])

    def test_the_greatest_lateness(self):
        self.assertIsNone(greatest_lateness(self.system, self.releases, self.outcome))
        system = self.system.with_table([2])
        outcome = run(system, self.releases)
        self.assertEqual(outcome.ends, [[2, 3], [5]])
        self.assertEqual(latenesses(system, self.releases, outcome), [[-3, -2], [-1]])
        self.assertEqual(greatest_lateness(system, self.releases, outcome), -1)

    def test_a_lateness_of_0_and_above(self):
        system = System([lone("t", 2, 2), lone("u", 1, 9)], table=[1])
        releases = [[(0, "k")], [(0, "k")]]
        self.assertEqual(greatest_lateness(system, releases, run(system, releases)), 0)
        system = System([lone("t", 3, 2), lone("u", 1, 9)], table=[1])
        outcome = run(system, releases)
        self.assertEqual(latenesses(system, releases, outcome), [[1], [-5]])
        self.assertEqual(greatest_lateness(system, releases, outcome), 1)

    def test_no_releases(self):
        system = System([lone("t", 2, 2), lone("u", 1, 9)], table=[1])
        outcome = run(system, [[], []])
        self.assertEqual(response_times([[], []], outcome), [[], []])
        self.assertEqual(latenesses(system, [[], []], outcome), [[], []])
        self.assertIsNone(greatest_lateness(system, [[], []], outcome))
        self.assertEqual(response_times([], NOTHING), [])
        self.assertEqual(latenesses(System([], table=[1]), [], NOTHING), [])
        self.assertIsNone(greatest_lateness(System([], table=[1]), [], NOTHING))

    def test_against_the_words(self):
        random = Random(97)
        seen = {}
        for _ in range(150):
            system, releases, outcome = random_outcome(random)
            times = response_times(releases, outcome)
            late = latenesses(system, releases, outcome)
            self.assertEqual([len(row) for row in times], [len(row) for row in releases])
            for task, number in jobs(releases):
                end = outcome.ends[task][number]
                released = releases[task][number]
                if end is None:
                    self.assertEqual((times[task][number], late[task][number]), (None, None))
                else:
                    self.assertEqual(times[task][number], end - released[0])
                    self.assertEqual(late[task][number], end - due(system.tasks[task], released))
            every = [number for row in late for number in row]
            greatest = None if None in every or not every else max(every)
            self.assertEqual(greatest_lateness(system, releases, outcome), greatest)
            seen[greatest] = True
        self.assertIn(None, seen)
        self.assertLess(min(value for value in seen if value is not None), 0)
        self.assertGreater(max(value for value in seen if value is not None), 0)


class Point98(Metrics):
    def outcome_of(self, *slots, ends=((9,), (9,))):
        return Outcome(list(slots), [list(row) for row in ends], None)

    def test_interruptions(self):
        # The job (0, 0) is not served in slot 1; slot 5 is the last one.
        self.assertEqual(interruptions(self.outcome), 1)
        self.assertEqual(interruptions(NOTHING), 0)

    def test_a_job_that_is_served_in_two_slots_with_one_between_them(self):
        first, second = [(0, 0, 1)], [(1, 0, 1)]
        self.assertEqual(interruptions(self.outcome_of(first, [], first, ends=[[3], []])), 1)
        self.assertEqual(interruptions(self.outcome_of(first, second, first, ends=[[3], [2]])), 1)
        self.assertEqual(interruptions(self.outcome_of(first, first, first, ends=[[3], []])), 0)
        self.assertEqual(interruptions(self.outcome_of(first, second, first, second, ends=[[3], [4]])), 2)

    def test_a_job_that_is_done_is_not_interrupted(self):
        self.assertEqual(interruptions(self.outcome_of([(0, 0, 1)], [], ends=[[1]])), 0)
        self.assertEqual(interruptions(self.outcome_of([(0, 0, 1)], [], ends=[[None]])), 1)

    def test_the_last_slot_and_the_one_before_it(self):
        served = [(0, 0, 1)]
        self.assertEqual(interruptions(self.outcome_of([], [], served, ends=[[None]])), 0)
        self.assertEqual(interruptions(self.outcome_of([], served, [], ends=[[None]])), 1)
        self.assertEqual(interruptions(self.outcome_of(served, ends=[[None]])), 0)

    def test_several_jobs_in_a_slot(self):
        slots = [[(0, 0, 1), (0, 1, 1), (1, 0, 1)], [(0, 1, 1)], []]
        self.assertEqual(interruptions(self.outcome_of(*slots, ends=[[None, None], [None]])), 3)
        self.assertEqual(interruptions(self.outcome_of(*slots, ends=[[None, 2], [1]])), 1)

    def test_busy_intervals(self):
        self.assertEqual(busy_intervals(self.outcome), [(0, 1), (2, 4), (5, 6)])
        self.assertEqual(busy_intervals(NOTHING), [])
        self.assertEqual(busy_intervals(self.outcome_of([], [])), [])

    def test_busy_intervals_at_the_first_and_at_the_last_slot(self):
        served = [(0, 0, 1)]
        self.assertEqual(busy_intervals(self.outcome_of(served, [], [], served)), [(0, 1), (3, 4)])
        self.assertEqual(busy_intervals(self.outcome_of(served, served)), [(0, 2)])
        self.assertEqual(busy_intervals(self.outcome_of([], served, served, [])), [(1, 3)])

    def test_full_slots(self):
        self.assertEqual(full_slots(self.system, self.outcome), [0, 2, 3, 5])
        self.assertEqual(full_slots(self.system, NOTHING), [])

    def test_a_slot_of_capacity_0_is_not_full(self):
        system = System([lone("t", 1, 4)], table=[0])
        self.assertEqual(full_slots(system, run(system, [[(0, "k")]])), [])

    def test_a_slot_that_is_full_by_several_jobs(self):
        system = System([lone("t", 1, 4), lone("u", 2, 4)], table=[3])
        self.assertEqual(full_slots(system, run(system, [[(0, "k")], [(0, "k")]])), [0])
        self.assertEqual(full_slots(system.with_table([4]), run(system, [[(0, "k")], [(0, "k")]])), [])

    def test_against_the_words(self):
        random = Random(98)
        seen = {}
        for _ in range(200):
            system, _, outcome = random_outcome(random)
            self.assertEqual(interruptions(outcome), slow_interruptions(outcome))
            self.assertEqual(busy_intervals(outcome), slow_intervals(outcome))
            left = unused(system, outcome.slots)
            full = [number for number, units in enumerate(left) if units == 0
                    and system.table[number % len(system.table)] != 0]
            self.assertEqual(full_slots(system, outcome), full)
            seen[interruptions(outcome)] = True
        self.assertGreater(len(seen), 3)


class Point99(Metrics):
    def test_backlog(self):
        self.assertEqual(backlog(self.system, self.releases, self.outcome), [3, 5, 7, 6, 4, 4, 3])

    def test_the_instant_0_and_no_releases(self):
        self.assertEqual(backlog(System([], table=[1]), [], NOTHING), [0])
        system = System([lone("t", 2, 2)], table=[1])
        self.assertEqual(backlog(system, [[]], run(system, [[]])), [0])
        self.assertEqual(backlog(system, [[(0, "k")]], run(system, [[(0, "k")]])), [2, 1, 0])

    def test_releases_count_at_their_instant(self):
        system = System([lone("t", 2, 2), lone("u", 3, 2)], table=[1])
        releases = [[(2, "k")], [(2, "k")]]
        self.assertEqual(backlog(system, releases, run(system, releases)), [0, 0, 5, 4, 3])

    def test_against_the_words(self):
        random = Random(99)
        for _ in range(150):
            system, releases, outcome = random_outcome(random)
            self.assertEqual(backlog(system, releases, outcome), slow_backlog(system, releases, outcome))


class Sums(Metrics):
    def test_units_by_task(self):
        self.assertEqual(units_by_task(self.outcome), [5, 1])
        self.assertEqual(units_by_task(NOTHING), [])
        self.assertEqual(units_by_task(Outcome([], [[], [None]], None)), [0, 0])

    def test_unused_total(self):
        self.assertEqual(unused_total(self.system, self.outcome), 0)
        self.assertEqual(unused_total(self.system.with_table([5]), self.outcome), 24)
        self.assertEqual(unused_total(self.system, NOTHING), 0)

    def test_against_the_words(self):
        random = Random(100)
        for _ in range(150):
            system, releases, outcome = random_outcome(random)
            units = [
                sum(units for number in range(len(row)) for _, units in outcome.served(task, number))
                for task, row in enumerate(releases)
            ]
            self.assertEqual(units_by_task(outcome), units)
            self.assertEqual(unused_total(system, outcome), sum(unused(system, outcome.slots)))


class NothingChanges(Metrics):
    CALLS = (
        lambda system, releases, outcome: response_times(releases, outcome),
        latenesses,
        greatest_lateness,
        lambda system, releases, outcome: interruptions(outcome),
        lambda system, releases, outcome: busy_intervals(outcome),
        lambda system, releases, outcome: units_by_task(outcome),
        lambda system, releases, outcome: unused_total(system, outcome),
        lambda system, releases, outcome: full_slots(system, outcome),
        backlog,
    )

    def test_the_outcome_and_the_releases_stay_as_they_were(self):
        before = fields(self.outcome)
        for call in self.CALLS:
            call(self.system, self.releases, self.outcome)
            self.assertEqual(fields(self.outcome), before)
            self.assertEqual(self.releases, [[(0, "a"), (2, "b")], [(1, "k")]])

    def test_a_changed_answer_changes_no_later_one(self):
        for call in self.CALLS:
            first = call(self.system, self.releases, self.outcome)
            if isinstance(first, list):
                expected = copy_of(first) if first and isinstance(first[0], list) else list(first)
                if isinstance(first[0], list):
                    first[0].append("more")
                first.append("more")
                self.assertEqual(call(self.system, self.releases, self.outcome), expected)


if __name__ == "__main__":
    unittest.main()
