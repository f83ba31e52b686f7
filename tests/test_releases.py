"""neverlate.releases: points 13 to 18."""

import unittest
from random import Random

from neverlate.errors import InvalidReleases, UnknownName
from neverlate.releases import (
    all_jobs,
    check_releases,
    due,
    earliest_next,
    follows,
    is_legal,
    last_due,
    shift,
    system_work_within,
    work,
    work_within,
)
from neverlate.tasks import System, Task
from samples import engine, engine_circle, lone, random_releases, random_task


class UnknownKinds(unittest.TestCase):
    def unknown(self, name, call, *arguments, **keywords):
        with self.assertRaises(UnknownName) as caught:
            call(*arguments, **keywords)
        self.assertEqual(caught.exception.name, name)


class Point13(UnknownKinds):
    def test_due(self):
        self.assertEqual(due(engine(), (0, "a")), 2)
        self.assertEqual(due(engine(), (7, "b")), 10)
        self.assertEqual(due(lone("t", 1, 1000), (100000, "k")), 101000)

    def test_due_of_an_unknown_kind(self):
        self.unknown("c", due, engine(), (0, "c"))

    def test_last_due(self):
        system = System([engine_circle(), lone("late", 1, 9)], table=[1])
        self.assertEqual(last_due(system, [[(0, "a"), (4, "b")], []]), 7)
        self.assertEqual(last_due(system, [[(0, "a"), (4, "b")], [(0, "k")]]), 9)
        self.assertEqual(last_due(system, [[], []]), 0)
        self.assertEqual(last_due(System([], table=[1]), []), 0)

    def test_last_due_is_not_that_of_the_last_release(self):
        task = Task("t", kinds=[("a", 1, 1), ("b", 1, 9)], ways=[("b", "a", 1)])
        self.assertEqual(last_due(System([task], table=[1]), [[(0, "b"), (1, "a")]]), 9)

    def test_all_jobs(self):
        system = System([engine_circle(), lone("k", 5, 2, 1)], table=[1])
        releases = [[(1, "b"), (4, "a")], [(0, "k"), (2, "k"), (4, "k")]]
        self.assertEqual(
            all_jobs(system, releases),
            [(2, 0, 1, 0, 5), (4, 1, 0, 0, 2), (4, 2, 1, 1, 5), (6, 4, 0, 1, 1), (6, 4, 1, 2, 5)],
        )
        self.assertEqual(releases, [[(1, "b"), (4, "a")], [(0, "k"), (2, "k"), (4, "k")]])
        self.assertEqual(all_jobs(system, [[], []]), [])


class Point14(UnknownKinds):
    def test_examples(self):
        self.assertIs(follows(engine(), (3, "a"), (7, "b")), True)
        self.assertIs(follows(engine(), (3, "a"), (6, "b")), False)

    def test_around_the_distance(self):
        self.assertEqual(
            [follows(engine(), (10, "a"), (time, "b")) for time in (13, 14, 15, 100000)],
            [False, True, True, True],
        )
        self.assertIs(follows(engine(), (10, "a"), (5, "b")), False)

    def test_no_way(self):
        self.assertIs(follows(engine(), (0, "b"), (100, "a")), False)
        self.assertIs(follows(engine(), (0, "a"), (100, "a")), False)

    def test_several_ways(self):
        for ways in ([("a", "b", 9), ("a", "b", 4)], [("a", "b", 4), ("a", "b", 9)]):
            self.assertIs(follows(engine(ways), (0, "a"), (4, "b")), True)
            self.assertIs(follows(engine(ways), (0, "a"), (3, "b")), False)

    def test_the_way_of_another_target_does_not_count(self):
        task = engine([("a", "a", 1), ("a", "b", 4)])
        self.assertIs(follows(task, (0, "a"), (1, "a")), True)
        self.assertIs(follows(task, (0, "a"), (1, "b")), False)

    def test_unknown_kinds(self):
        self.unknown("x", follows, engine(), (0, "x"), (9, "b"))
        self.unknown("y", follows, engine(), (0, "a"), (9, "y"))
        self.unknown("y", follows, engine(), (0, "b"), (9, "y"))
        self.unknown("x", follows, engine(), (0, "x"), (9, "y"))

    def test_short_lists_are_legal(self):
        self.assertIs(is_legal(engine(), []), True)
        for kind in ("a", "b"):
            for time in (0, 100000):
                self.assertIs(is_legal(engine(), [(time, kind)]), True)

    def test_longer_lists(self):
        task = engine_circle()
        self.assertIs(is_legal(task, [(5, "a"), (9, "b"), (11, "a"), (20, "b")]), True)
        self.assertIs(is_legal(task, [(5, "a"), (9, "b"), (10, "a"), (20, "b")]), False)
        self.assertIs(is_legal(task, [(5, "a"), (9, "b"), (11, "a"), (14, "b")]), False)
        self.assertIs(is_legal(task, [(5, "a"), (8, "b"), (11, "a")]), False)

    def test_a_release_follows_the_one_directly_before_it(self):
        self.assertIs(is_legal(engine_circle(), [(0, "a"), (4, "b"), (8, "b")]), False)

    def test_an_unknown_kind_comes_first(self):
        self.unknown("x", is_legal, engine(), [(0, "x")])
        self.unknown("x", is_legal, engine(), [(0, "a"), (1, "b"), (2, "x"), (3, "y")])


class Point15And16(unittest.TestCase):
    def setUp(self):
        self.system = System([engine_circle(), lone("late", 1, 9, 5)], table=[1])

    def illegal(self, task_number, release_number, releases):
        with self.subTest(releases), self.assertRaises(InvalidReleases) as caught:
            check_releases(self.system, releases)
        error = caught.exception
        self.assertEqual((error.task_number, error.release_number), (task_number, release_number))

    def test_legal_releases(self):
        for releases in ([[], []], [[(3, "b")], []], [[(0, "a"), (4, "b")], [(0, "k"), (5, "k"), (11, "k")]]):
            self.assertIsNone(check_releases(self.system, releases))
        self.assertIsNone(check_releases(System([], table=[1]), []))

    def test_unknown_kinds(self):
        self.illegal(0, 0, [[(0, "x")], []])
        self.illegal(1, 0, [[(0, "a")], [(0, "a")]])
        self.illegal(0, 1, [[(0, "a"), (50, "x"), (51, "x")], [(0, "x")]])

    def test_releases_that_do_not_follow(self):
        self.illegal(0, 1, [[(0, "a"), (3, "b")], []])
        self.illegal(0, 2, [[(0, "a"), (4, "b"), (5, "a")], []])
        self.illegal(1, 3, [[], [(0, "k"), (5, "k"), (10, "k"), (14, "k")]])

    def test_the_first_release_that_is_not_legal(self):
        self.illegal(0, 1, [[(0, "a"), (1, "b"), (2, "x")], [(0, "x")]])
        self.illegal(0, 2, [[(0, "a"), (4, "b"), (5, "a")], [(0, "k"), (1, "k")]])
        self.illegal(1, 1, [[(0, "a")], [(0, "k"), (1, "k"), (2, "k")]])

    def test_agrees_with_is_legal(self):
        random = Random(3)
        for _ in range(300):
            task = random_task(random)
            releases = [(random.randint(0, 9), random.choice(task.kinds)[0]) for _ in range(random.randint(0, 3))]
            releases.sort()
            try:
                check_releases(System([task], table=[1]), [releases])
                legal = True
            except InvalidReleases as error:
                legal = False
                self.assertTrue(is_legal(task, releases[:error.release_number]))
                self.assertFalse(is_legal(task, releases[:error.release_number + 1]))
            self.assertIs(is_legal(task, releases), legal)


class Point17(UnknownKinds):
    def test_example(self):
        self.assertEqual(work_within(engine(), [(0, "a"), (4, "b")], start=0, end=6), 1)

    def test_work(self):
        self.assertEqual(work(engine(), []), 0)
        self.assertEqual(work(engine(), [(0, "a"), (4, "b")]), 3)
        self.unknown("x", work, engine(), [(0, "a"), (1, "x"), (2, "y")])

    def test_start_just_at_the_release(self):
        releases = [(5, "b")]
        self.assertEqual([work_within(engine(), releases, start=start, end=99) for start in (4, 5, 6)], [2, 2, 0])

    def test_end_just_at_the_due(self):
        releases = [(5, "b")]
        self.assertEqual([work_within(engine(), releases, start=0, end=end) for end in (7, 8, 9)], [0, 2, 2])

    def test_lists_that_are_not_legal(self):
        self.assertEqual(work_within(engine(), [(3, "b"), (0, "a"), (0, "a")], start=0, end=6), 4)
        self.assertEqual(work_within(engine(), [], start=0, end=6), 0)

    def test_work_of_a_system(self):
        system = System([engine(), lone("late", 5, 2)], table=[1])
        releases = [[(0, "a"), (4, "b")], [(5, "k")]]
        self.assertEqual(system_work_within(system, releases, start=0, end=7), 8)
        self.assertEqual(system_work_within(system, releases, start=0, end=6), 1)
        self.assertEqual(system_work_within(system, releases, start=1, end=7), 7)
        self.assertEqual(system_work_within(system, releases, start=6, end=7), 0)
        self.assertEqual(system_work_within(System([], table=[1]), [], start=0, end=7), 0)

    def test_shift(self):
        releases = [(0, "a"), (4, "b")]
        self.assertEqual(shift(releases, 10), [(10, "a"), (14, "b")])
        self.assertEqual(shift(releases, 0), releases)
        self.assertIsNot(shift(releases, 0), releases)
        self.assertEqual(releases, [(0, "a"), (4, "b")])
        self.assertEqual(shift([], 10), [])


class Point18(UnknownKinds):
    def test_example(self):
        task = engine([("a", "b", 4), ("a", "a", 5), ("a", "b", 2)])
        self.assertEqual(earliest_next(task, (10, "a")), [("a", 15), ("b", 12)])

    def test_no_way(self):
        self.assertEqual(earliest_next(engine(), (0, "b")), [])
        self.assertEqual(earliest_next(engine([]), (0, "a")), [])

    def test_the_least_of_several_ways(self):
        for ways in ([("a", "b", 4), ("a", "b", 2)], [("a", "b", 2), ("a", "b", 4)]):
            self.assertEqual(earliest_next(engine(ways), (1, "a")), [("b", 3)])

    def test_unknown_kind(self):
        self.unknown("x", earliest_next, engine(), (0, "x"))

    def test_just_from_then_on_a_release_follows(self):
        random = Random(4)
        for _ in range(200):
            task = random_task(random)
            release = (random.randint(0, 9), random.choice(task.kinds)[0])
            found = earliest_next(task, release)
            times = dict(found)
            self.assertEqual([kind for kind, _ in found], [kind[0] for kind in task.kinds if kind[0] in times])
            for kind, _, _ in task.kinds:
                for time in range(release[0], release[0] + 6):
                    expected = kind in times and time >= times[kind]
                    self.assertIs(follows(task, release, (time, kind)), expected)


class LegalSamples(unittest.TestCase):
    def test_random_releases_are_legal(self):
        random = Random(5)
        for _ in range(100):
            task = random_task(random)
            self.assertTrue(is_legal(task, random_releases(random, task)))


if __name__ == "__main__":
    unittest.main()
