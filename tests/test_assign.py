"""neverlate.assign: points 90 to 92."""

import unittest
from itertools import product
from random import Random

from neverlate.assign import Assignment, assign, fewest_processors, is_safe, safe_moves
from neverlate.errors import Undecided, UnknownName, UnknownNumber
from neverlate.gives import trial
from neverlate.notation import format_system
from neverlate.tasks import System, Task
from samples import lone, random_table, random_task


def slow_kind(tasks, tables, processors, horizon):
    """Point 90, word by word: "refused", "safe" or "undecided"."""
    trials = []
    for number, table in enumerate(tables):
        own = [task for task, processor in zip(tasks, processors) if processor == number]
        trials.append(trial(System(own, table=table), horizon=horizon))
    if "fails" in trials:
        return "refused"
    return "undecided" if "undecided" in trials else "safe"


def slow_assign(tasks, tables, horizon):
    """Point 91, word by word: a list of processors, None or "undecided"."""
    for processors in sorted(product(range(len(tables)), repeat=len(tasks))):
        kind = slow_kind(tasks, tables, processors, horizon)
        if kind != "refused":
            return list(processors) if kind == "safe" else "undecided"
    return None


def processors_of(function, *arguments, horizon):
    """The processors of the assignment that the function returns, or None, or "undecided"."""
    try:
        found = function(*arguments, horizon=horizon)
    except Undecided as error:
        assert error.horizon == horizon
        return "undecided"
    return None if found is None else list(found.processors)


def fields(assignment):
    return (assignment.tasks, assignment.tables, assignment.processors)


def costs(*numbers, deadline=6):
    """Tasks that have one job each, with these costs and the same deadline."""
    return [lone("t%d" % place, cost, deadline) for place, cost in enumerate(numbers)]


def random_input(random):
    tasks = [random_task(random, "t%d" % number) for number in range(random.randint(0, 3))]
    return tasks, [random_table(random) for _ in range(random.randint(1, 3))]


# With the table [1] this task is undecided up to the horizon 12, and safe at 13.
SLOW = lone("slow", 4, 4, 4)


class Assignments(unittest.TestCase):
    def setUp(self):
        self.tasks = costs(1, 2, 3)
        self.assignment = Assignment(self.tasks, [[1], [2, 0], [5]], [2, 0, 2])

    def raises(self, error, value, call, *arguments):
        with self.assertRaises(error) as caught:
            call(*arguments)
        self.assertEqual(list(vars(caught.exception).values()), [value])

    def test_attributes_are_tuples(self):
        self.assertEqual(fields(self.assignment), (tuple(self.tasks), ((1,), (2, 0), (5,)), (2, 0, 2)))
        self.assertEqual([type(value) for value in self.assignment.tables], [tuple] * 3)

    def test_later_changes_of_the_lists_have_no_effect(self):
        tasks, tables, processors = list(self.tasks), [[1], [2]], [0, 1, 1]
        assignment = Assignment(tasks, tables, processors)
        tasks.pop()
        tables[0][0] = 9
        tables.append([3])
        processors[0] = 1
        self.assertEqual(fields(assignment), (tuple(self.tasks), ((1,), (2,)), (0, 1, 1)))

    def test_used(self):
        self.assertEqual(self.assignment.used, 2)
        self.assertEqual(Assignment(self.tasks, [[1], [1]], [1, 1, 1]).used, 1)
        self.assertEqual(Assignment([], [[1], [1]], []).used, 0)

    def test_task_numbers(self):
        self.assertEqual([self.assignment.task_numbers(number) for number in range(3)], [[1], [], [0, 2]])
        self.assertEqual(Assignment([], [[1]], []).task_numbers(0), [])

    def test_task_numbers_are_new_lists(self):
        self.assignment.task_numbers(2).append(9)
        self.assertEqual(self.assignment.task_numbers(2), [0, 2])

    def test_systems(self):
        expected = [
            System([self.tasks[1]], table=[1]),
            System([], table=[2, 0]),
            System([self.tasks[0], self.tasks[2]], table=[5]),
        ]
        for number, system in enumerate(expected):
            self.assertEqual(format_system(self.assignment.system(number)), format_system(system))
        self.assertEqual(
            [format_system(system) for system in self.assignment.systems()],
            [format_system(system) for system in expected],
        )

    def test_unknown_processors(self):
        for number in (3, -1, -3, 10 ** 30):
            self.raises(UnknownNumber, number, self.assignment.task_numbers, number)
            self.raises(UnknownNumber, number, self.assignment.system, number)
            self.raises(UnknownNumber, number, self.assignment.moved, "t0", number)

    def test_processor_of(self):
        self.assertEqual([self.assignment.processor_of(name) for name in ("t0", "t1", "t2")], [2, 0, 2])

    def test_unknown_tasks(self):
        for name in ("t3", "", "T0", "t0 "):
            self.raises(UnknownName, name, self.assignment.processor_of, name)
            self.raises(UnknownName, name, self.assignment.moved, name, 0)
            # The name comes before the number.
            self.raises(UnknownName, name, self.assignment.moved, name, -1)

    def test_moved(self):
        moved = self.assignment.moved("t2", 1)
        self.assertEqual(fields(moved), (tuple(self.tasks), ((1,), (2, 0), (5,)), (2, 0, 1)))
        self.assertEqual(fields(self.assignment.moved("t2", 2)), fields(self.assignment))
        self.assertEqual(self.assignment.processors, (2, 0, 2))


class Point90(unittest.TestCase):
    def kind(self, assignment, horizon):
        try:
            return "safe" if is_safe(assignment, horizon=horizon) else "refused"
        except Undecided as error:
            self.assertEqual(error.horizon, horizon)
            return "undecided"

    def test_safe_and_refused(self):
        tasks = costs(4, 4)
        self.assertIs(is_safe(Assignment(tasks, [[1], [1]], [0, 1]), horizon=20), True)
        self.assertIs(is_safe(Assignment(tasks, [[1], [1]], [1, 1]), horizon=20), False)
        self.assertIs(is_safe(Assignment(tasks, [[1], [2]], [1, 1]), horizon=20), True)

    def test_no_tasks_and_a_processor_without_tasks(self):
        self.assertIs(is_safe(Assignment([], [[0], [0, 0]], []), horizon=1), True)
        self.assertIs(is_safe(Assignment(costs(4), [[0], [1]], [1]), horizon=20), True)
        self.assertIs(is_safe(Assignment(costs(4), [[0], [1]], [0]), horizon=20), False)

    def test_refused_comes_before_undecided(self):
        late = lone("late", 9, 6)
        for tables, processors in (([[1], [1]], [0, 1]), ([[1], [1]], [1, 0])):
            self.assertEqual(self.kind(Assignment([SLOW, late], tables, processors), 12), "refused")
        self.assertEqual(self.kind(Assignment([SLOW, lone("quick", 1, 6)], [[1], [1]], [0, 1]), 12), "undecided")
        self.assertEqual(self.kind(Assignment([SLOW, lone("quick", 1, 6)], [[1], [1]], [0, 1]), 13), "safe")

    def test_against_the_words(self):
        random = Random(90)
        seen = {}
        for _ in range(300):
            tasks, tables = random_input(random)
            processors = [random.randrange(len(tables)) for _ in tasks]
            horizon = random.choice((3, 8, 20))
            kind = self.kind(Assignment(tasks, tables, processors), horizon)
            self.assertEqual(kind, slow_kind(tasks, tables, processors, horizon))
            seen[kind] = True
        self.assertEqual(len(seen), 3)

    def test_without_ways_every_assignment_is_refused_or_safe(self):
        random = Random(91)
        for _ in range(150):
            tasks, tables = random_input(random)
            tasks = [Task(task.name, kinds=task.kinds) for task in tasks]
            deadline = max([task.latest_deadline for task in tasks], default=0)
            horizon = deadline + 2 * max(len(table) for table in tables)
            for processors in product(range(len(tables)), repeat=len(tasks)):
                self.assertNotEqual(self.kind(Assignment(tasks, tables, processors), horizon), "undecided")


class Point91(unittest.TestCase):
    def test_the_first_one_that_is_not_refused(self):
        tasks = costs(4, 4, 2, 1)
        found = assign(tasks, [[1], [1]], horizon=20)
        self.assertEqual(fields(found), (tuple(tasks), ((1,), (1,)), (0, 1, 0, 1)))
        self.assertEqual(processors_of(assign, costs(6, 1, 5), [[1], [1]], horizon=20), [0, 1, 1])
        self.assertEqual(processors_of(assign, costs(6, 12), [[1], [2]], horizon=20), [0, 1])
        self.assertEqual(processors_of(assign, costs(12, 6), [[1], [2]], horizon=20), [1, 0])

    def test_no_tasks(self):
        found = assign([], [[3, 0], [0]], horizon=1)
        self.assertEqual(fields(found), ((), ((3, 0), (0,)), ()))

    def test_all_refused(self):
        self.assertIsNone(assign(costs(4, 4, 4), [[1], [1]], horizon=20))
        self.assertIsNone(assign(costs(7), [[1]], horizon=20))

    def test_the_first_one_that_is_not_refused_is_undecided(self):
        # [0] is undecided with the horizon 12, although [1] is safe.
        self.assertEqual(processors_of(assign, [SLOW], [[1], [9]], horizon=12), "undecided")
        self.assertEqual(processors_of(assign, [SLOW], [[9], [1]], horizon=12), [0])
        self.assertEqual(processors_of(assign, [SLOW], [[0], [1], [9]], horizon=12), "undecided")
        self.assertEqual(processors_of(assign, [SLOW], [[1], [9]], horizon=13), [0])

    def test_six_tasks_on_six_processors(self):
        self.assertEqual(processors_of(assign, costs(*[6] * 6), [[1]] * 6, horizon=20), [0, 1, 2, 3, 4, 5])
        self.assertIsNone(assign(costs(6, 6, 6, 6, 6, 7), [[1]] * 6, horizon=20))

    def test_arguments_stay_as_they_were(self):
        tasks, tables = costs(4, 4), [[1], [1]]
        copies = (list(tasks), [list(table) for table in tables])
        found = assign(tasks, tables, horizon=20)
        self.assertEqual((tasks, tables), copies)
        tables[0][0] = 9
        self.assertEqual(found.tables, ((1,), (1,)))

    def test_against_the_words(self):
        random = Random(92)
        seen = {}
        for _ in range(250):
            tasks, tables = random_input(random)
            horizon = random.choice((3, 8, 20))
            found = processors_of(assign, tasks, tables, horizon=horizon)
            self.assertEqual(found, slow_assign(tasks, tables, horizon))
            seen[found if found in (None, "undecided") else "found"] = True
        self.assertEqual(len(seen), 3)


class FewestProcessors(unittest.TestCase):
    def test_1_2_and_3_processors(self):
        for tasks, count, processors in (
            (costs(1, 2, 3), 1, (0, 0, 0)),
            (costs(4, 4, 2), 2, (0, 1, 0)),
            (costs(4, 4, 4), 3, (0, 1, 2)),
        ):
            found = fewest_processors(tasks, [1], horizon=20)
            self.assertEqual(fields(found), (tuple(tasks), ((1,),) * count, processors))

    def test_no_tasks(self):
        found = fewest_processors([], [0], horizon=1)
        self.assertEqual(fields(found), ((), ((0,),), ()))

    def test_none_up_to_the_number_of_tasks(self):
        self.assertIsNone(fewest_processors(costs(4, 7), [1], horizon=20))
        self.assertIsNone(fewest_processors(costs(7), [1], horizon=20))

    def test_the_first_error(self):
        tasks = [lone("a", 2, 4, 4), lone("b", 2, 4, 4)]
        self.assertEqual(processors_of(fewest_processors, tasks, [1], horizon=12), "undecided")
        self.assertEqual(processors_of(fewest_processors, tasks, [1], horizon=40), [0, 0])

    def test_an_error_behind_a_count_with_none(self):
        tasks = [SLOW, lone("other", 4, 4, 4), lone("third", 1, 4)]
        self.assertIsNone(assign(tasks, [[1]], horizon=12))
        self.assertIsNone(assign(tasks, [[1]] * 2, horizon=12))
        self.assertEqual(processors_of(fewest_processors, tasks, [1], horizon=12), "undecided")
        self.assertEqual(processors_of(fewest_processors, tasks, [1], horizon=13), [0, 1, 2])

    def test_against_the_words(self):
        random = Random(93)
        seen = {}
        for _ in range(200):
            tasks, tables = random_input(random)
            horizon = random.choice((3, 8, 20))
            expected = None
            for count in range(1, max(1, len(tasks)) + 1):
                expected = slow_assign(tasks, tables[:1] * count, horizon)
                if expected is not None:
                    break
            found = processors_of(fewest_processors, tasks, tables[0], horizon=horizon)
            self.assertEqual(found, expected)
            seen["none" if found is None else found if found == "undecided" else max(found, default=0)] = True
        self.assertGreaterEqual(len(seen), 4)


class Point92(unittest.TestCase):
    def test_each_task_to_each_other_processor(self):
        assignment = Assignment(costs(1, 1), [[1], [1], [1]], [1, 0])
        self.assertEqual(safe_moves(assignment, horizon=20), [("t0", 0), ("t0", 2), ("t1", 1), ("t1", 2)])

    def test_only_moves_that_are_not_refused(self):
        assignment = Assignment(costs(4, 4, 2), [[1], [1], [0]], [0, 1, 0])
        self.assertEqual(safe_moves(assignment, horizon=20), [("t2", 1)])

    def test_an_undecided_assignment_is_not_refused(self):
        quick = lone("quick", 1, 6)
        self.assertEqual(
            safe_moves(Assignment([SLOW, quick], [[9], [1], [1]], [0, 0]), horizon=12),
            [("slow", 1), ("slow", 2), ("quick", 1), ("quick", 2)],
        )

    def test_a_refused_assignment(self):
        self.assertEqual(safe_moves(Assignment(costs(4, 4), [[1], [1]], [0, 0]), horizon=20), [("t0", 1), ("t1", 1)])
        self.assertEqual(safe_moves(Assignment(costs(4, 4, 4, 9), [[1], [1]], [0, 0, 1, 1]), horizon=20), [])

    def test_no_tasks_and_one_processor(self):
        self.assertEqual(safe_moves(Assignment([], [[1], [1]], []), horizon=20), [])
        self.assertEqual(safe_moves(Assignment(costs(1), [[1]], [0]), horizon=20), [])

    def test_the_assignment_stays_as_it_was(self):
        tasks = costs(4, 4, 2)
        assignment = Assignment(tasks, [[1], [1], [2]], [0, 1, 0])
        safe_moves(assignment, horizon=20).append("more")
        self.assertEqual(fields(assignment), (tuple(tasks), ((1,), (1,), (2,)), (0, 1, 0)))
        self.assertNotIn("more", safe_moves(assignment, horizon=20))

    def test_against_the_words(self):
        random = Random(94)
        seen = {}
        for _ in range(150):
            tasks, tables = random_input(random)
            processors = [random.randrange(len(tables)) for _ in tasks]
            horizon = random.choice((3, 8, 20))
            expected = []
            for number, task in enumerate(tasks):
                for processor in range(len(tables)):
                    other = processors[:number] + [processor] + processors[number + 1:]
                    if other != processors and slow_kind(tasks, tables, other, horizon) != "refused":
                        expected.append((task.name, processor))
            self.assertEqual(safe_moves(Assignment(tasks, tables, processors), horizon=horizon), expected)
            seen[len(expected)] = True
        self.assertGreater(len(seen), 3)


if __name__ == "__main__":
    unittest.main()
