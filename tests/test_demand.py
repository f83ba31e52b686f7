"""neverlate.demand: points 22 to 24."""

import unittest
from random import Random

from neverlate.demand import demand, demands, heaviest, rows, system_demands
from neverlate.releases import is_legal, work_within
from neverlate.tasks import System, Task
from samples import engine, engine_circle, legal_lists, lone, random_task


class Point22(unittest.TestCase):
    def test_example(self):
        self.assertEqual(rows(engine_circle(), 4), [[0, 0], [0, 0], [1, 0], [1, 2], [1, 3]])

    def test_length_0(self):
        self.assertEqual(rows(engine_circle(), 0), [[0, 0]])
        self.assertEqual(rows(Task("t", kinds=[("k", 5, 1)], ways=[("k", "k", 1)]), 0), [[0]])

    def test_around_the_deadline(self):
        self.assertEqual(rows(lone("t", 5, 3), 4), [[0], [0], [0], [5], [5]])

    def test_around_the_distance(self):
        self.assertEqual(rows(lone("t", 5, 1, 2), 5), [[0], [5], [5], [10], [10], [15]])
        task = Task("t", kinds=[("a", 1, 9), ("b", 7, 1)], ways=[("a", "b", 3)])
        self.assertEqual([row[0] for row in rows(task, 9)], [0, 0, 0, 0, 7, 7, 7, 7, 7, 8])

    def test_a_distance_just_as_great_as_the_length(self):
        task = Task("t", kinds=[("a", 1, 1), ("b", 1, 1)], ways=[("a", "b", 2)])
        self.assertEqual(rows(task, 2)[2], [1, 1])
        self.assertEqual(rows(task, 3)[3], [2, 1])

    def test_without_ways(self):
        self.assertEqual(rows(engine([]), 5)[5], [1, 2])

    def test_several_ways(self):
        task = Task("t", kinds=[("a", 1, 1), ("b", 2, 1), ("c", 5, 1)], ways=[("a", "b", 1), ("a", "c", 3)])
        self.assertEqual([row[0] for row in rows(task, 5)], [0, 1, 3, 3, 6, 6])
        for distances in ((4, 2), (2, 4)):
            self.assertEqual(rows(lone("t", 1, 1, *distances), 5)[5], [3])

    def test_the_same_question_once_more(self):
        task = engine_circle()
        found = rows(task, 4)
        found[4][0] = 99
        found[3].clear()
        found.pop()
        self.assertEqual(rows(task, 4), [[0, 0], [0, 0], [1, 0], [1, 2], [1, 3]])
        demands(task, 4).clear()
        self.assertEqual(demands(task, 4), [0, 0, 1, 2, 3])
        system = System([task], table=[1])
        system_demands(system, 4).clear()
        self.assertEqual(system_demands(system, 4), [0, 0, 1, 2, 3])
        heaviest(task, 4).clear()
        self.assertEqual(heaviest(task, 4), [(0, "b"), (2, "a")])

    def test_against_all_legal_lists(self):
        random = Random(9)
        for _ in range(60):
            task = random_task(random)
            for length, row in enumerate(rows(task, 7)):
                greatest = [
                    max(work_within(task, releases, start=0, end=length)
                        for releases in legal_lists(task, kind, length))
                    for kind, _, _ in task.kinds
                ]
                self.assertEqual(row, greatest)


class Point23(unittest.TestCase):
    def test_demand(self):
        self.assertEqual([demand(engine_circle(), length) for length in range(8)], [0, 0, 1, 2, 3, 3, 3, 3])
        self.assertEqual(demands(engine_circle(), 7), [0, 0, 1, 2, 3, 3, 3, 3])
        self.assertEqual(demands(engine_circle(), 0), [0])

    def test_the_greatest_number_of_the_row(self):
        task = engine_circle()
        self.assertEqual(demands(task, 50), [max(row) for row in rows(task, 50)])

    def test_demand_of_a_system(self):
        system = System([engine_circle(), lone("t", 5, 3)], table=[1])
        self.assertEqual(system_demands(system, 4), [0, 0, 1, 7, 8])
        self.assertEqual(system_demands(system, 0), [0])

    def test_a_system_without_tasks(self):
        self.assertEqual(system_demands(System([], table=[1]), 3), [0, 0, 0, 0])

    def test_long_lengths(self):
        self.assertEqual(demand(lone("t", 1000, 1000, 1), 1000), 1000)
        self.assertEqual(demand(lone("t", 1000, 1, 1), 1000), 1000000)

    def test_no_window_has_more_work(self):
        random = Random(10)
        for _ in range(20):
            task = random_task(random, kinds=2, ways=3)
            for kind, _, _ in task.kinds:
                for releases in legal_lists(task, kind, 6):
                    for start in range(4):
                        for end in range(start, 8):
                            found = work_within(task, releases, start=start, end=end)
                            self.assertLessEqual(found, demand(task, end - start))


class Point24(unittest.TestCase):
    def test_example(self):
        self.assertEqual(heaviest(engine_circle(), 4), [(0, "b"), (2, "a")])

    def test_the_demand_0(self):
        self.assertEqual(heaviest(engine_circle(), 0), [])
        self.assertEqual(heaviest(engine_circle(), 1), [])
        self.assertEqual(heaviest(engine_circle(), 2), [(0, "a")])

    def test_the_first_kind_where_several_tie(self):
        task = Task("t", kinds=[("c", 1, 3), ("b", 2, 2), ("a", 2, 1)])
        self.assertEqual(heaviest(task, 2), [(0, "b")])
        self.assertEqual(heaviest(task, 1), [(0, "a")])

    def test_the_first_way_where_several_tie(self):
        kinds = [("a", 9, 1), ("b", 2, 1), ("c", 2, 1)]
        to_b, to_c, to_b_later = ("a", "b", 1), ("a", "c", 1), ("a", "b", 2)
        self.assertEqual(heaviest(Task("t", kinds=kinds, ways=[to_b, to_c]), 9), [(0, "a"), (1, "b")])
        self.assertEqual(heaviest(Task("t", kinds=kinds, ways=[to_c, to_b]), 9), [(0, "a"), (1, "c")])
        self.assertEqual(heaviest(Task("t", kinds=kinds, ways=[to_b_later, to_b]), 9), [(0, "a"), (2, "b")])

    def test_a_way_with_a_greater_number_goes_before_an_earlier_one(self):
        kinds = [("a", 9, 1), ("b", 2, 1), ("c", 3, 1)]
        task = Task("t", kinds=kinds, ways=[("a", "b", 1), ("a", "c", 1)])
        self.assertEqual(heaviest(task, 9), [(0, "a"), (1, "c")])

    def test_a_target_with_the_number_0_ends_the_list(self):
        task = Task("t", kinds=[("a", 9, 1), ("b", 2, 3)], ways=[("a", "b", 2)])
        self.assertEqual(heaviest(task, 4), [(0, "a")])
        self.assertEqual(heaviest(task, 5), [(0, "a"), (2, "b")])

    def test_a_distance_greater_than_the_rest_ends_the_list(self):
        self.assertEqual(heaviest(lone("t", 1, 1, 5), 4), [(0, "k")])
        self.assertEqual(heaviest(lone("t", 1, 1, 5), 6), [(0, "k"), (5, "k")])

    def test_jobs_that_are_due_behind_the_window_may_lead_to_others(self):
        task = Task("t", kinds=[("a", 1, 9), ("b", 7, 1)], ways=[("b", "a", 1), ("a", "b", 1)])
        self.assertEqual(heaviest(task, 3), [(0, "b"), (1, "a"), (2, "b")])
        self.assertEqual(heaviest(task, 4), [(0, "a"), (1, "b"), (2, "a"), (3, "b")])

    def test_is_legal_and_has_the_demand(self):
        random = Random(11)
        for _ in range(200):
            task = random_task(random, kinds=4, ways=8)
            for length in range(12):
                releases = heaviest(task, length)
                self.assertTrue(is_legal(task, releases))
                self.assertEqual(work_within(task, releases, start=0, end=length), demand(task, length))


if __name__ == "__main__":
    unittest.main()
