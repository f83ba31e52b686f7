"""neverlate.circuits: points 25 and 26."""

import unittest
from fractions import Fraction
from itertools import permutations
from random import Random

from neverlate.circuits import best_circuit, circuit_mean, circuits, share
from neverlate.tasks import Task
from samples import engine, engine_circle, lone, random_task


def is_circuit(task, circuit):
    """Point 25, word by word."""
    ways = [task.ways[number] for number in circuit]
    sources = [task.kind_number(way[0]) for way in ways]
    targets = [task.kind_number(way[1]) for way in ways]
    return targets == sources[1:] + sources[:1] and len(set(sources)) == len(sources) and sources[0] == min(sources)


def slow_circuits(task):
    found = []
    for count in range(1, len(task.kinds) + 1):
        for circuit in permutations(range(len(task.ways)), count):
            if is_circuit(task, circuit):
                found.append(list(circuit))
    return sorted(found, key=lambda circuit: (task.kind_number(task.ways[circuit[0]][0]), circuit))


class Point25(unittest.TestCase):
    def test_without_circuits(self):
        self.assertEqual(circuits(engine([])), [])
        self.assertEqual(circuits(engine()), [])
        self.assertEqual(circuits(engine([("a", "b", 4), ("a", "b", 2)])), [])

    def test_circuits_of_one_way(self):
        self.assertEqual(circuits(engine([("b", "b", 1), ("a", "a", 2)])), [[1], [0]])
        self.assertEqual(circuits(lone("t", 1, 1, 3, 3)), [[0], [1]])

    def test_the_least_source_comes_first(self):
        self.assertEqual(circuits(engine_circle()), [[0, 1]])
        self.assertEqual(circuits(engine([("b", "a", 2), ("a", "b", 4)])), [[1, 0]])

    def test_several_ways_between_the_same_kinds(self):
        task = engine([("b", "a", 1), ("a", "b", 2), ("a", "b", 3), ("b", "a", 4), ("a", "a", 5)])
        self.assertEqual(circuits(task), [[1, 0], [1, 3], [2, 0], [2, 3], [4]])

    def test_the_order_of_the_way_numbers(self):
        kinds = [("a", 1, 1), ("b", 1, 1), ("c", 1, 1)]
        ways = [("a", "c", 1), ("c", "b", 1), ("b", "a", 1), ("c", "a", 1), ("a", "b", 1), ("b", "c", 1)]
        task = Task("t", kinds=kinds, ways=ways)
        self.assertEqual(circuits(task), [[0, 1, 2], [0, 3], [4, 2], [4, 5, 3], [5, 1]])

    def test_the_order_of_the_kinds_goes_before_that_of_the_ways(self):
        kinds = [("z", 1, 1), ("a", 1, 1)]
        task = Task("t", kinds=kinds, ways=[("a", "a", 1), ("z", "a", 1), ("a", "z", 1), ("z", "z", 1)])
        self.assertEqual(circuits(task), [[1, 2], [3], [0]])

    def test_a_source_occurs_once(self):
        kinds = [("a", 1, 1), ("b", 1, 1), ("c", 1, 1)]
        ways = [("a", "b", 1), ("b", "c", 1), ("c", "b", 1), ("b", "a", 1)]
        self.assertEqual(circuits(Task("t", kinds=kinds, ways=ways)), [[0, 3], [1, 2]])

    def test_many_circuits(self):
        names = "abcdefgh"
        kinds = [(name, 1, 1) for name in names]
        ways = [(name, names[(at + 1) % 8], 1) for at, name in enumerate(names) for _ in range(2)]
        found = circuits(Task("t", kinds=kinds, ways=ways))
        self.assertEqual(len(found), 256)
        self.assertEqual(found, sorted(found))

    def test_returned_list_is_new(self):
        task = engine_circle()
        circuits(task)[0].clear()
        self.assertEqual(circuits(task), [[0, 1]])

    def test_against_all_lists_of_ways(self):
        random = Random(12)
        for _ in range(150):
            task = random_task(random, kinds=4, ways=6)
            self.assertEqual(circuits(task), slow_circuits(task))


class Point26(unittest.TestCase):
    def test_example(self):
        task = engine_circle()
        self.assertEqual((share(task), best_circuit(task)), ((1, 2), [0, 1]))

    def test_mean(self):
        task = engine([("a", "b", 4), ("b", "a", 2), ("b", "b", 6)])
        self.assertEqual(circuit_mean(task, [0, 1]), (1, 2))
        self.assertEqual(circuit_mean(task, [2]), (1, 3))
        self.assertEqual(circuit_mean(lone("t", 7, 1, 3), [0]), (7, 3))

    def test_without_circuits(self):
        for task in (engine([]), engine()):
            self.assertEqual(share(task), (0, 1))
            self.assertEqual(best_circuit(task), [])

    def test_the_first_circuit_whose_mean_is_the_share(self):
        task = engine([("b", "b", 4), ("a", "b", 5), ("b", "a", 1), ("a", "a", 2)])
        self.assertEqual([circuit_mean(task, circuit) for circuit in circuits(task)], [(1, 2)] * 3)
        self.assertEqual(best_circuit(task), [1, 2])

    def test_a_later_circuit_with_a_greater_mean(self):
        task = lone("t", 3, 1, 4, 2, 3, 2)
        self.assertEqual(share(task), (3, 2))
        self.assertEqual(best_circuit(task), [1])

    def test_the_share_is_the_greatest_mean(self):
        random = Random(13)
        for _ in range(150):
            task = random_task(random, kinds=4, ways=8)
            means = [Fraction(*circuit_mean(task, circuit)) for circuit in circuits(task)]
            greatest = max(means, default=Fraction(0))
            self.assertEqual(share(task), (greatest.numerator, greatest.denominator))
            expected = circuits(task)[means.index(greatest)] if means else []
            self.assertEqual(best_circuit(task), expected)


if __name__ == "__main__":
    unittest.main()
