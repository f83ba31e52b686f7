"""neverlate.policies: points 93 to 96."""

import unittest
from itertools import permutations
from random import Random

from neverlate.edf import Outcome, run
from neverlate.errors import InvalidReleases, UnknownName
from neverlate.policies import POLICIES, fixed_order, late_by_policy, run_fixed, run_policy
from neverlate.releases import all_jobs, last_due
from neverlate.tasks import System, Task
from samples import lone, random_releases, random_system

KEYS = {
    "deadline": lambda job, slot, needs: (job[0], job[1], job[2], job[3]),
    "fixed": lambda job, slot, needs: (job[2], job[3]),
    "arrival": lambda job, slot, needs: (job[1], job[2], job[3]),
    "laxity": lambda job, slot, needs: (job[0] - slot - needs, job[0], job[2], job[3]),
}


def slow_run(system, releases, key):
    """Points 93 and 94, word by word. Returns (slots, ends, late)."""
    jobs = all_jobs(system, releases)
    needs = {job[2:4]: job[4] for job in jobs}
    ends = [[None] * len(row) for row in releases]
    slots = []
    for number in range(last_due(system, releases)):
        room = system.table[number % len(system.table)]
        waiting = [job for job in jobs if job[1] <= number and needs[job[2:4]]]
        waiting.sort(key=lambda job: key(job, number, needs[job[2:4]]))
        slot = []
        for job in waiting:
            units = min(room, needs[job[2:4]])
            if units == 0:
                break
            slot.append((*job[2:4], units))
            room -= units
            needs[job[2:4]] -= units
            if needs[job[2:4]] == 0:
                ends[job[2]][job[3]] = number + 1
        slots.append(slot)
    late = [job[0] for job in jobs if (ends[job[2]][job[3]] or 10 ** 9) > job[0]]
    return (slots, ends, min(late, default=None))


def slow_fixed(system, releases, order):
    return slow_run(system, releases, lambda job, slot, needs: (list(order).index(job[2]), job[3]))


def fields(outcome):
    assert isinstance(outcome, Outcome)
    return (outcome.slots, outcome.ends, outcome.late)


def random_input(random, tasks=3):
    system = random_system(random, tasks=tasks)
    return system, [random_releases(random, task, count=4) for task in system.tasks]


def jobs_of(*kinds, table=(1,)):
    """A system whose tasks have one job each, of this cost and deadline."""
    return System([lone("t%d" % place, *kind) for place, kind in enumerate(kinds)], table=table)


class Policies(unittest.TestCase):
    def served(self, system, releases, **slots):
        """The policies serve these slots."""
        for policy, expected in slots.items():
            with self.subTest(policy):
                found = run_policy(system, releases, policy=policy)
                self.assertEqual(found.slots[:len(expected)], expected)
                self.assertEqual(fields(found), slow_run(system, releases, KEYS[policy]))


class Point93(Policies):
    def test_the_policies(self):
        self.assertEqual(POLICIES, ("deadline", "fixed", "arrival", "laxity"))

    def test_each_policy_has_its_own_order(self):
        system = jobs_of((1, 8), (1, 7), (4, 9), (1, 6))
        self.served(
            system,
            [[(1, "k")], [(1, "k")], [(1, "k")], [(0, "k")]],
            deadline=[[(3, 0, 1)], [(1, 0, 1)], [(0, 0, 1)], [(2, 0, 1)]],
            fixed=[[(3, 0, 1)], [(0, 0, 1)], [(1, 0, 1)], [(2, 0, 1)]],
            laxity=[[(3, 0, 1)], [(2, 0, 1)], [(1, 0, 1)], [(2, 0, 1)], [(0, 0, 1)]],
        )
        self.served(
            System([lone("a", 3, 5), lone("b", 2, 9), lone("c", 1, 4)], table=[1]),
            [[(1, "k")], [(0, "k")], [(1, "k")]],
            arrival=[[(1, 0, 1)], [(1, 0, 1)], [(0, 0, 1)], [(0, 0, 1)], [(0, 0, 1)], [(2, 0, 1)]],
            deadline=[[(1, 0, 1)], [(2, 0, 1)], [(0, 0, 1)], [(0, 0, 1)], [(0, 0, 1)], [(1, 0, 1)]],
        )

    def test_ties_go_to_the_smaller_task_number(self):
        system = jobs_of((2, 4), (2, 4), (2, 4), table=[2])
        for policy in POLICIES:
            found = run_policy(system, [[(0, "k")]] * 3, policy=policy).slots
            self.assertEqual(found, [[(0, 0, 2)], [(1, 0, 2)], [(2, 0, 2)], []])

    def test_ties_of_releases_of_one_task(self):
        # The release 1 is due at 4 like the release 0, and the release 2 is due earlier.
        task = Task("t", kinds=[("a", 2, 4), ("b", 2, 3), ("c", 2, 1)], ways=[("a", "b", 1), ("b", "c", 1)])
        self.served(
            System([task], table=[1]),
            [[(0, "a"), (1, "b"), (2, "c")]],
            deadline=[[(0, 0, 1)], [(0, 0, 1)], [(0, 2, 1)], [(0, 2, 1)]],
            fixed=[[(0, 0, 1)], [(0, 0, 1)], [(0, 1, 1)], [(0, 1, 1)]],
            arrival=[[(0, 0, 1)], [(0, 0, 1)], [(0, 1, 1)], [(0, 1, 1)]],
            laxity=[[(0, 0, 1)], [(0, 1, 1)], [(0, 2, 1)], [(0, 2, 1)]],
        )

    def test_equal_dues_and_arrivals(self):
        # Both are due at 5: the deadline policy takes the earlier release, the others the task number.
        self.served(
            jobs_of((2, 4), (2, 5)),
            [[(1, "k")], [(0, "k")]],
            deadline=[[(1, 0, 1)], [(1, 0, 1)], [(0, 0, 1)]],
            fixed=[[(1, 0, 1)], [(0, 0, 1)], [(0, 0, 1)], [(1, 0, 1)]],
            arrival=[[(1, 0, 1)], [(1, 0, 1)], [(0, 0, 1)]],
        )

    def test_equal_laxities(self):
        # The laxities are 3 and 3, the dues 5 and 4.
        self.served(
            jobs_of((2, 5), (1, 4)),
            [[(0, "k")], [(0, "k")]],
            laxity=[[(1, 0, 1)], [(0, 0, 1)], [(0, 0, 1)], [], []],
        )

    def test_laxities_that_change_from_slot_to_slot(self):
        # A job that waits loses laxity, one that is served keeps it, so the two take turns.
        self.served(
            jobs_of((3, 6), (3, 7)),
            [[(0, "k")], [(0, "k")]],
            laxity=[[(0, 0, 1)], [(0, 0, 1)], [(1, 0, 1)], [(0, 0, 1)], [(1, 0, 1)], [(1, 0, 1)], []],
        )

    def test_laxities_below_zero(self):
        # The laxities are -1 and -2 in slot 0, -2 and -2 in slot 1.
        self.served(
            jobs_of((4, 3), (5, 3)),
            [[(0, "k")], [(0, "k")]],
            laxity=[[(1, 0, 1)], [(0, 0, 1)], [(1, 0, 1)]],
            deadline=[[(0, 0, 1)], [(0, 0, 1)], [(0, 0, 1)]],
        )

    def test_a_job_is_served_behind_its_due(self):
        for policy in POLICIES:
            found = run_policy(jobs_of((3, 1), (1, 9)), [[(0, "k")], [(0, "k")]], policy=policy)
            self.assertEqual(sum(len(slot) for slot in found.slots), 4)
            self.assertEqual(found.late, 1)
        found = run_policy(jobs_of((3, 1), (1, 9)), [[(0, "k")], [(0, "k")]], policy="fixed")
        self.assertEqual((found.slots[2], found.ends), ([(0, 0, 1)], [[3], [4]]))

    def test_several_jobs_in_a_slot(self):
        system = jobs_of((2, 9), (3, 5), (4, 3), table=[4])
        self.served(
            system,
            [[(0, "k")], [(0, "k")], [(0, "k")]],
            deadline=[[(2, 0, 4)], [(1, 0, 3), (0, 0, 1)], [(0, 0, 1)]],
            fixed=[[(0, 0, 2), (1, 0, 2)], [(1, 0, 1), (2, 0, 3)], [(2, 0, 1)]],
            laxity=[[(2, 0, 4)], [(1, 0, 3), (0, 0, 1)], [(0, 0, 1)]],
        )

    def test_capacities_of_0(self):
        for policy in POLICIES:
            found = run_policy(jobs_of((1, 3), table=[0]), [[(0, "k")]], policy=policy)
            self.assertEqual(fields(found), ([[], [], []], [[None]], 3))
            found = run_policy(jobs_of((1, 3), table=[0, 2]), [[(0, "k")]], policy=policy)
            self.assertEqual(fields(found), ([[], [(0, 0, 1)], []], [[2]], None))

    def test_no_releases(self):
        for policy in POLICIES:
            self.assertEqual(fields(run_policy(jobs_of((1, 3), (1, 4)), [[], []], policy=policy)), ([], [[], []], None))
            self.assertEqual(fields(run_policy(System([], table=[1]), [], policy=policy)), ([], [], None))

    def test_the_policy_left_out(self):
        system = jobs_of((3, 6), (3, 4))
        releases = [[(0, "k")], [(0, "k")]]
        self.assertEqual(fields(run_policy(system, releases)), fields(run(system, releases)))

    def test_unknown_policies(self):
        for policy in ("edf", "", "Deadline", "deadline ", "rank"):
            for releases in ([[(0, "k")]], [[(0, "x")]]):
                with self.assertRaises(UnknownName) as caught:
                    run_policy(jobs_of((1, 3)), releases, policy=policy)
                self.assertEqual(caught.exception.name, policy)

    def test_releases_that_are_not_legal(self):
        for policy in POLICIES:
            with self.assertRaises(InvalidReleases) as caught:
                run_policy(jobs_of((1, 3), (1, 3)), [[(0, "k")], [(0, "k"), (4, "k")]], policy=policy)
            self.assertEqual((caught.exception.task_number, caught.exception.release_number), (1, 1))

    def test_against_the_words(self):
        random = Random(93)
        seen = {}
        for _ in range(250):
            system, releases = random_input(random)
            for policy in POLICIES:
                found = fields(run_policy(system, releases, policy=policy))
                self.assertEqual(found, slow_run(system, releases, KEYS[policy]))
                seen[policy, found[2] is None] = True
        self.assertEqual(len(seen), 8)

    def test_arguments_stay_as_they_were(self):
        system = jobs_of((1, 3), (2, 4))
        releases = [[(0, "k")], [(1, "k")]]
        for policy in POLICIES:
            run_policy(system, releases, policy=policy)
        run_fixed(system, releases, order=[1, 0])
        fixed_order(system, releases)
        self.assertEqual(releases, [[(0, "k")], [(1, "k")]])


class Point94(unittest.TestCase):
    def test_the_policy_deadline_is_a_run(self):
        random = Random(94)
        for _ in range(100):
            system, releases = random_input(random)
            self.assertEqual(
                fields(run_policy(system, releases, policy="deadline")), fields(run(system, releases))
            )

    def test_the_slots_go_up_to_the_last_due(self):
        for policy in POLICIES:
            found = run_policy(jobs_of((1, 3), (1, 4)), [[(6, "k")], [(2, "k")]], policy=policy)
            self.assertEqual(len(found.slots), 9)

    def test_late_by_policy(self):
        system = jobs_of((3, 9), (1, 1), (2, 4))
        releases = [[(0, "k")], [(1, "k")], [(0, "k")]]
        self.assertEqual(
            late_by_policy(system, releases),
            [("deadline", None), ("fixed", 2), ("arrival", 2), ("laxity", None)],
        )
        self.assertEqual(late_by_policy(System([], table=[0]), []), [(policy, None) for policy in POLICIES])

    def test_late_by_policy_against_the_words(self):
        random = Random(95)
        for _ in range(60):
            system, releases = random_input(random)
            expected = [(policy, slow_run(system, releases, KEYS[policy])[2]) for policy in POLICIES]
            self.assertEqual(late_by_policy(system, releases), expected)

    def test_late_by_policy_with_releases_that_are_not_legal(self):
        with self.assertRaises(InvalidReleases):
            late_by_policy(jobs_of((1, 3)), [[(0, "x")]])


class Point95(unittest.TestCase):
    def test_example(self):
        first = Task("first", kinds=[("a", 2, 4)], ways=[])
        second = Task("second", kinds=[("b", 1, 1)], ways=[])
        system = System([first, second], table=[1])
        self.assertEqual(run_fixed(system, [[(0, "a")], [(0, "b")]], order=[0, 1]).late, 1)
        self.assertIsNone(run_fixed(system, [[(0, "a")], [(0, "b")]], order=[1, 0]).late)

    def test_lists_and_tuples(self):
        system = jobs_of((2, 9), (2, 9), (2, 9))
        for order in ([2, 0, 1], (2, 0, 1)):
            found = run_fixed(system, [[(0, "k")]] * 3, order=order)
            self.assertEqual(found.ends, [[4], [6], [2]])
        order = [2, 0, 1]
        run_fixed(system, [[(0, "k")]] * 3, order=order)
        self.assertEqual(order, [2, 0, 1])

    def test_releases_of_one_task_in_the_order_of_their_numbers(self):
        task = Task("t", kinds=[("a", 2, 9), ("b", 1, 2)], ways=[("a", "b", 1)])
        found = run_fixed(System([task, lone("u", 1, 9)], table=[1]), [[(0, "a"), (1, "b")], [(0, "k")]], order=[1, 0])
        self.assertEqual(found.slots[:4], [[(1, 0, 1)], [(0, 0, 1)], [(0, 0, 1)], [(0, 1, 1)]])

    def test_the_order_of_the_numbers_is_the_policy_fixed(self):
        random = Random(96)
        for _ in range(60):
            system, releases = random_input(random)
            order = list(range(len(system.tasks)))
            self.assertEqual(
                fields(run_fixed(system, releases, order=order)), fields(run_policy(system, releases, policy="fixed"))
            )

    def test_releases_that_are_not_legal(self):
        for call in (lambda *two: run_fixed(*two, order=[0]), fixed_order):
            with self.assertRaises(InvalidReleases) as caught:
                call(jobs_of((1, 3)), [[(0, "k"), (9, "k")]])
            self.assertEqual((caught.exception.task_number, caught.exception.release_number), (0, 1))

    def test_against_the_words(self):
        random = Random(97)
        for _ in range(150):
            system, releases = random_input(random)
            order = list(range(len(system.tasks)))
            random.shuffle(order)
            self.assertEqual(
                fields(run_fixed(system, releases, order=order)), slow_fixed(system, releases, order)
            )

    def test_the_first_of_several_that_keep_the_releases(self):
        system = jobs_of((1, 9), (1, 9), (1, 9))
        self.assertEqual(fixed_order(system, [[(0, "k")]] * 3), (0, 1, 2))
        # Only orders with task 2 in front keep the releases.
        system = jobs_of((1, 9), (1, 9), (1, 1))
        self.assertEqual(fixed_order(system, [[(0, "k")]] * 3), (2, 0, 1))
        # (1, 2, 0) alone keeps them: task 1 needs the slots 0 to 2, and task 2 is due at 5.
        system = jobs_of((2, 9), (3, 3), (1, 5))
        self.assertEqual(fixed_order(system, [[(0, "k")]] * 3), (1, 2, 0))

    def test_none_keeps_them(self):
        self.assertIsNone(fixed_order(jobs_of((1, 1), (1, 1)), [[(0, "k")]] * 2))
        # Earliest deadline first keeps these releases, but no fixed order does: each task has a job that
        # must go first.
        task = Task("t", kinds=[("a", 2, 9), ("b", 1, 1)], ways=[("a", "b", 4)])
        other = Task("u", kinds=[("a", 1, 1), ("b", 2, 9)], ways=[("a", "b", 3)])
        system = System([task, other], table=[1])
        releases = [[(0, "a"), (4, "b")], [(0, "a"), (3, "b")]]
        self.assertIsNone(run(system, releases).late)
        self.assertIsNone(fixed_order(system, releases))

    def test_no_tasks(self):
        self.assertEqual(fixed_order(System([], table=[1]), []), ())
        self.assertEqual(fields(run_fixed(System([], table=[1]), [], order=[])), ([], [], None))

    def test_no_releases(self):
        self.assertEqual(fixed_order(jobs_of((9, 1), (9, 1)), [[], []]), (0, 1))

    def test_fixed_order_against_the_words(self):
        random = Random(98)
        seen = {}
        for _ in range(250):
            system, releases = random_input(random, tasks=4)
            orders = [
                order for order in permutations(range(len(system.tasks)))
                if slow_fixed(system, releases, order)[2] is None
            ]
            found = fixed_order(system, releases)
            self.assertEqual(found, min(orders, default=None))
            seen[found] = True
        self.assertIn(None, seen)
        self.assertIn((), seen)
        self.assertGreater(len(seen), 6)


class Point96(unittest.TestCase):
    def test_where_no_job_is_late_by_a_policy_none_is_late_in_a_run(self):
        random = Random(99)
        seen = {}
        for _ in range(300):
            system, releases = random_input(random)
            edf = run(system, releases).late
            for policy, late in late_by_policy(system, releases):
                if late is None:
                    self.assertIsNone(edf)
                seen[policy, late is None, edf is None] = True
            if fixed_order(system, releases) is not None:
                self.assertIsNone(edf)
        # Each of the other policies is also late where a run is not.
        for policy in POLICIES[1:]:
            self.assertIn((policy, False, True), seen)


if __name__ == "__main__":
    unittest.main()
