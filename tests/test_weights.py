"""neverlate.weights: points 27 to 30."""

import unittest
from random import Random

from neverlate.circuits import share
from neverlate.demand import demands
from neverlate.tasks import Task
from neverlate.weights import check_weights, linear_bound, way_weight, weights
from samples import engine, engine_circle, lone, random_task


def slow_weight(task, kind, rate, count):
    """The greatest weight of a path from the kind with at most so many ways."""
    if count == 0:
        return 0
    return max([0] + [
        way_weight(task, way, rate) + slow_weight(task, way[1], rate, count - 1)
        for way in task.ways
        if way[0] == kind
    ])


class Point27(unittest.TestCase):
    def test_weight_of_a_way(self):
        task = engine_circle()
        self.assertEqual(way_weight(task, ("a", "b", 4), (1, 2)), -2)
        self.assertEqual(way_weight(task, ("b", "a", 2), (1, 2)), 2)
        self.assertEqual(way_weight(task, ("b", "a", 2), (0, 1)), 2)

    def test_a_rate_with_a_negative_top(self):
        self.assertEqual(way_weight(engine_circle(), ("b", "a", 2), (-3, 5)), 16)

    def test_the_way_need_not_be_one_of_the_task(self):
        self.assertEqual(way_weight(engine_circle(), ("b", "b", 10), (2, 7)), -6)


class Point28(unittest.TestCase):
    def test_example(self):
        self.assertEqual(weights(engine_circle()), [0, 2])

    def test_kinds_from_which_no_way_leads(self):
        self.assertEqual(weights(engine([])), [0, 0])
        self.assertEqual(weights(engine()), [1, 0])

    def test_without_circuits_all_costs_of_a_path_count(self):
        kinds = [("a", 1, 1), ("b", 2, 1), ("c", 4, 1), ("d", 8, 1)]
        ways = [("a", "b", 9), ("b", "c", 9), ("c", "d", 9), ("a", "d", 1)]
        self.assertEqual(weights(Task("t", kinds=kinds, ways=ways)), [7, 6, 4, 0])

    def test_paths_as_long_as_they_can_be(self):
        names = "abcdefgh"
        kinds = [(name, 1, 1) for name in names]
        ways = [(first, second, 9) for first, second in zip(names, names[1:])]
        for order in (ways, ways[::-1]):
            self.assertEqual(weights(Task("t", kinds=kinds, ways=order)), [7, 6, 5, 4, 3, 2, 1, 0])

    def test_a_kind_with_a_circuit_of_its_own(self):
        self.assertEqual(weights(lone("t", 3, 1, 2)), [0])
        task = Task("t", kinds=[("a", 3, 1), ("b", 1, 1)], ways=[("a", "a", 2), ("b", "a", 1), ("a", "b", 1)])
        self.assertEqual(share(task), (2, 1))
        self.assertEqual(weights(task), [1, 0])

    def test_against_all_paths(self):
        random = Random(14)
        for _ in range(150):
            task = random_task(random, kinds=4, ways=6)
            rate = share(task)
            for count in (len(task.kinds) - 1, len(task.kinds) + 1):
                expected = [slow_weight(task, kind[0], rate, count) for kind in task.kinds]
                self.assertEqual(weights(task), expected)


class Point29(unittest.TestCase):
    def test_the_weights_are_a_certificate_for_the_share(self):
        random = Random(15)
        for _ in range(150):
            task = random_task(random, kinds=4, ways=8)
            self.assertIs(check_weights(task, share(task), weights(task)), True)

    def test_an_integer_too_many_or_too_few(self):
        task = engine_circle()
        for numbers in ([], [0], [0, 2, 0], [0, 2, 2]):
            self.assertIs(check_weights(task, (1, 2), numbers), False)
        for numbers in ([], [0, 0]):
            self.assertIs(check_weights(lone("t", 1, 1), (1, 2), numbers), False)

    def test_an_integer_below_0(self):
        self.assertIs(check_weights(engine([]), (1, 2), [0, 0]), True)
        for numbers in ([-1, 0], [0, -1], [-1, -1]):
            self.assertIs(check_weights(engine([]), (1, 2), numbers), False)

    def test_one_less_than_a_way_asks(self):
        task = engine_circle()
        self.assertIs(check_weights(task, (1, 2), [0, 2]), True)
        self.assertIs(check_weights(task, (1, 2), [0, 1]), False)
        self.assertIs(check_weights(task, (1, 2), [5, 7]), True)
        self.assertIs(check_weights(task, (1, 2), [5, 6]), False)
        self.assertIs(check_weights(task, (1, 2), [0, 3]), False)

    def test_each_way_counts(self):
        task = engine([("a", "b", 1), ("a", "b", 9)])
        self.assertIs(check_weights(task, (0, 1), [1, 0]), True)
        self.assertIs(check_weights(task, (0, 1), [0, 0]), False)

    def test_rates(self):
        task = lone("t", 3, 1, 2)
        self.assertIs(check_weights(task, (3, 2), [0]), True)
        self.assertIs(check_weights(task, (2, 1), [0]), True)
        self.assertIs(check_weights(task, (7, 5), [0]), False)
        self.assertIs(check_weights(task, (-3, 2), [10 ** 9]), False)
        self.assertIs(check_weights(engine(), (-3, 2), [14, 0]), True)
        self.assertIs(check_weights(engine(), (-3, 2), [13, 0]), False)

    def test_the_numbers_are_not_modified(self):
        numbers = [0, 2]
        check_weights(engine_circle(), (1, 2), numbers)
        self.assertEqual(numbers, [0, 2])


class Point30(unittest.TestCase):
    def test_example(self):
        self.assertEqual(linear_bound(engine_circle()), (1, 2, 2))

    def test_without_circuits(self):
        self.assertEqual(linear_bound(engine([])), (0, 2, 1))
        self.assertEqual(linear_bound(engine()), (0, 3, 1))

    def test_the_same_kind_twice(self):
        self.assertEqual(linear_bound(lone("t", 3, 1, 4)), (3, 9, 4))
        self.assertEqual(linear_bound(lone("t", 3, 3, 4)), (3, 3, 4))

    def test_the_extra_is_never_below_0(self):
        self.assertEqual(linear_bound(lone("t", 3, 4, 4)), (3, 0, 4))
        self.assertEqual(linear_bound(lone("t", 3, 9, 4)), (3, 0, 4))

    def test_against_all_pairs_of_kinds(self):
        random = Random(16)
        for _ in range(150):
            task = random_task(random, kinds=4, ways=8)
            top, bottom = share(task)
            numbers = weights(task)
            values = [
                first - second + bottom * cost - top * deadline
                for first in numbers
                for second, (_, cost, deadline) in zip(numbers, task.kinds)
            ]
            self.assertEqual(linear_bound(task), (top, max(0, max(values)), bottom))

    def test_bounds_the_demand(self):
        random = Random(17)
        for _ in range(100):
            task = random_task(random, kinds=4, ways=8)
            top, extra, bottom = linear_bound(task)
            for length, found in enumerate(demands(task, 60)):
                self.assertLessEqual(found * bottom, top * length + extra)


if __name__ == "__main__":
    unittest.main()
