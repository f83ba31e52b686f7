"""neverlate.tasks: points 2 to 7."""

import unittest

from neverlate.errors import InvalidSystem, InvalidTable, InvalidTask, UnknownName, UnknownNumber
from neverlate.tasks import System, Task
from samples import engine, engine_circle, lone

LETTERS = "abcdefghijklmnopqrstuvwxyz"
WRONG_NAMES = ["", "a" * 13, "A", "a b", "a-b", "a_b", "\u00e4", "\u00b2", "\u0663", "a\n", " a", "a."]
RIGHT_NAMES = ["a", "0", "a" * 12, "9" * 12, LETTERS[:12], LETTERS[12:24], "yz0123456789"]


class Point2(unittest.TestCase):
    def test_names_of_tasks(self):
        for name in RIGHT_NAMES:
            self.assertEqual(Task(name, kinds=[("k", 1, 1)]).name, name)

    def test_wrong_names_of_tasks(self):
        for name in WRONG_NAMES:
            with self.subTest(name), self.assertRaises(InvalidTask):
                Task(name, kinds=[("k", 1, 1)])

    def test_names_of_kinds(self):
        for name in RIGHT_NAMES:
            self.assertEqual(Task("t", kinds=[(name, 1, 1)]).kinds, ((name, 1, 1),))

    def test_wrong_names_of_kinds(self):
        for name in WRONG_NAMES:
            with self.subTest(name), self.assertRaises(InvalidTask):
                Task("t", kinds=[("k", 1, 1), (name, 1, 1)])

    def test_a_name_is_a_string(self):
        for name in (5, None, ("a",)):
            with self.subTest(name), self.assertRaises(InvalidTask):
                Task(name, kinds=[("k", 1, 1)])


class Point3(unittest.TestCase):
    def test_least_and_greatest_units(self):
        for units in (1, 1000):
            task = Task("t", kinds=[("k", units, units)], ways=[("k", "k", units)])
            self.assertEqual(task.kinds, (("k", units, units),))
            self.assertEqual(task.ways, (("k", "k", units),))

    def test_units_out_of_range(self):
        for units in (0, 1001, -1, 10 ** 50):
            with self.subTest(units):
                with self.assertRaises(InvalidTask):
                    Task("t", kinds=[("k", units, 1)])
                with self.assertRaises(InvalidTask):
                    Task("t", kinds=[("k", 1, units)])
                with self.assertRaises(InvalidTask):
                    Task("t", kinds=[("k", 1, 1)], ways=[("k", "k", units)])

    def test_units_are_integers(self):
        for units in ("1", None, True):
            with self.subTest(units), self.assertRaises(InvalidTask):
                Task("t", kinds=[("k", units, 1)])

    def test_tuples_of_other_lengths(self):
        for kind in ((), ("k", 1), ("k", 1, 1, 1)):
            with self.subTest(kind), self.assertRaises(InvalidTask):
                Task("t", kinds=[kind])
        for way in ((), ("k", "k"), ("k", "k", 1, 1)):
            with self.subTest(way), self.assertRaises(InvalidTask):
                Task("t", kinds=[("k", 1, 1)], ways=[way])

    def test_kinds_and_ways_are_tuples(self):
        with self.assertRaises(InvalidTask):
            Task("t", kinds=[["k", 1, 1]])
        with self.assertRaises(InvalidTask):
            Task("t", kinds=[("k", 1, 1)], ways=[["k", "k", 1]])

    def test_a_way_may_lead_to_its_own_kind_or_another_one(self):
        task = engine([("a", "a", 1), ("a", "b", 2), ("b", "a", 3)])
        self.assertEqual(task.ways, (("a", "a", 1), ("a", "b", 2), ("b", "a", 3)))


class Point4(unittest.TestCase):
    KINDS = [("k%d" % number, 1, 1) for number in range(9)]

    def test_count_of_kinds(self):
        self.assertEqual(len(Task("t", kinds=self.KINDS[:1]).kinds), 1)
        self.assertEqual(len(Task("t", kinds=self.KINDS[:8]).kinds), 8)
        for kinds in ([], self.KINDS):
            with self.assertRaises(InvalidTask):
                Task("t", kinds=kinds)

    def test_count_of_ways(self):
        for count in (0, 1, 16):
            self.assertEqual(len(Task("t", kinds=[("k", 1, 1)], ways=[("k", "k", 1)] * count).ways), count)
        with self.assertRaises(InvalidTask):
            Task("t", kinds=[("k", 1, 1)], ways=[("k", "k", 1)] * 17)

    def test_ways_may_be_left_out(self):
        self.assertEqual(Task("t", kinds=[("k", 1, 1)]).ways, ())

    def test_two_kinds_of_the_same_name(self):
        with self.assertRaises(InvalidTask):
            Task("t", kinds=[("k", 1, 1), ("l", 1, 1), ("k", 2, 2)])

    def test_ways_between_kinds_that_do_not_exist(self):
        for way in (("k", "x", 1), ("x", "k", 1), ("x", "x", 1), ("t", "k", 1), ("", "k", 1)):
            with self.subTest(way), self.assertRaises(InvalidTask):
                Task("t", kinds=[("k", 1, 1)], ways=[("k", "k", 1), way])

    def test_several_ways_between_the_same_kinds(self):
        task = engine([("a", "b", 4), ("a", "b", 2), ("a", "b", 4)])
        self.assertEqual(task.ways_from("a"), [("b", 4), ("b", 2), ("b", 4)])

    def test_later_changes_have_no_effect(self):
        kinds = [("a", 1, 2), ("b", 2, 3)]
        ways = [("a", "b", 4)]
        task = Task("t", kinds=kinds, ways=ways)
        kinds.append(("c", 1, 1))
        ways.clear()
        self.assertEqual(task.kinds, (("a", 1, 2), ("b", 2, 3)))
        self.assertEqual(task.ways, (("a", "b", 4),))

    def test_arguments_are_not_modified(self):
        kinds = [("b", 2, 3), ("a", 1, 2)]
        ways = [("b", "b", 4), ("a", "b", 4)]
        Task("t", kinds=kinds, ways=ways)
        self.assertEqual(kinds, [("b", 2, 3), ("a", 1, 2)])
        self.assertEqual(ways, [("b", "b", 4), ("a", "b", 4)])

    def test_kinds_and_ways_are_tuples(self):
        for make in (list, tuple):
            task = Task("t", kinds=make([("k", 1, 1)]), ways=make([("k", "k", 1)]))
            self.assertEqual(task.kinds, (("k", 1, 1),))
            self.assertEqual(task.ways, (("k", "k", 1),))
            self.assertIs(type(task.kinds), tuple)
            self.assertIs(type(task.ways), tuple)


class Point5(unittest.TestCase):
    def test_example(self):
        task = Task(
            "video",
            kinds=[("frame", 3, 10), ("key", 7, 12)],
            ways=[("key", "frame", 12), ("frame", "frame", 8)],
        )
        self.assertEqual(task.ways_from("frame"), [("frame", 8)])
        self.assertEqual(task.ways_from("key"), [("frame", 12)])

    def test_numbers_count_from_0(self):
        task = engine()
        self.assertEqual([task.kind_number("a"), task.kind_number("b")], [0, 1])

    def test_questions_about_kinds(self):
        task = engine()
        self.assertEqual([task.cost("a"), task.cost("b")], [1, 2])
        self.assertEqual([task.deadline("a"), task.deadline("b")], [2, 3])
        self.assertEqual(task.ways_from("b"), [])

    def test_unknown_kinds(self):
        task = engine()
        for question in (task.kind_number, task.cost, task.deadline, task.ways_from):
            for name in ("c", "", "engine", "A"):
                with self.subTest((question, name)), self.assertRaises(UnknownName) as caught:
                    question(name)
                self.assertEqual(caught.exception.name, name)

    def test_returned_list_is_new(self):
        task = engine()
        task.ways_from("a").clear()
        self.assertEqual(task.ways_from("a"), [("b", 4)])

    def test_longest_distance(self):
        self.assertEqual(engine([]).longest_distance, 0)
        self.assertEqual(engine([("a", "b", 4), ("b", "a", 9), ("a", "a", 3)]).longest_distance, 9)

    def test_latest_deadline(self):
        self.assertEqual(engine().latest_deadline, 3)
        self.assertEqual(Task("t", kinds=[("a", 9, 5), ("b", 1, 4)]).latest_deadline, 5)


class Point6(unittest.TestCase):
    TASKS = [lone("t%d" % number, 1, 1) for number in range(7)]

    def test_length_of_the_table(self):
        for length in (1, 2, 1001):
            self.assertEqual(len(System([], table=[1] * length).table), length)
        for length in (0, 1002):
            with self.assertRaises(InvalidTable):
                System([], table=[1] * length)

    def test_capacities(self):
        self.assertEqual(System([], table=[0, 1000000, 5]).table, (0, 1000000, 5))
        for units in (-1, 1000001, "1", None, True):
            with self.subTest(units), self.assertRaises(InvalidTable):
                System([], table=[1, units])

    def test_count_of_tasks(self):
        for count in (0, 1, 6):
            self.assertEqual(System(self.TASKS[:count], table=[1]).tasks, tuple(self.TASKS[:count]))
        with self.assertRaises(InvalidSystem):
            System(self.TASKS, table=[1])

    def test_two_tasks_of_the_same_name(self):
        with self.assertRaises(InvalidSystem):
            System([lone("a", 1, 1), lone("b", 1, 1), lone("a", 2, 2)], table=[1])

    def test_the_table_goes_before_the_tasks(self):
        for tasks in (self.TASKS, [self.TASKS[0], self.TASKS[0]]):
            for table in ([], [-1], [1] * 1002):
                with self.assertRaises(InvalidTable):
                    System(tasks, table=table)

    def test_later_changes_have_no_effect(self):
        tasks = [engine()]
        table = [1, 2]
        system = System(tasks, table=table)
        tasks.clear()
        table[0] = 9
        self.assertEqual([task.name for task in system.tasks], ["engine"])
        self.assertEqual(system.table, (1, 2))

    def test_tasks_and_table_are_tuples(self):
        for make in (list, tuple):
            system = System(make(self.TASKS[:2]), table=make([1, 2]))
            self.assertEqual(system.tasks, tuple(self.TASKS[:2]))
            self.assertEqual(system.table, (1, 2))

    def test_task_numbers(self):
        system = System(self.TASKS[:3], table=[1])
        self.assertEqual([system.task_number("t%d" % number) for number in range(3)], [0, 1, 2])
        for name in ("t3", "", "k"):
            with self.assertRaises(UnknownName) as caught:
                system.task_number(name)
            self.assertEqual(caught.exception.name, name)


class Point7(unittest.TestCase):
    def setUp(self):
        self.tasks = [lone(name, 1, 1) for name in ("a", "b", "c")]
        self.system = System(self.tasks, table=[1, 0])

    def unknown(self, number, call, *arguments):
        with self.assertRaises(UnknownNumber) as caught:
            call(*arguments)
        self.assertEqual(caught.exception.number, number)

    def test_with_task(self):
        other = engine_circle()
        changed = self.system.with_task(1, other)
        self.assertEqual(changed.tasks, (self.tasks[0], other, self.tasks[2]))
        self.assertEqual(changed.table, (1, 0))
        self.assertEqual(self.system.tasks, tuple(self.tasks))

    def test_with_task_at_each_place(self):
        for number in range(3):
            names = ["a", "b", "c"]
            names[number] = "engine"
            changed = self.system.with_task(number, engine())
            self.assertEqual([task.name for task in changed.tasks], names)

    def test_with_a_task_of_the_same_name(self):
        self.assertEqual(self.system.with_task(1, lone("b", 5, 5)).tasks[1].cost("k"), 5)
        with self.assertRaises(InvalidSystem):
            self.system.with_task(1, lone("c", 5, 5))

    def test_with_task_of_an_unknown_number(self):
        for number in (-1, 3, 100):
            self.unknown(number, self.system.with_task, number, engine())
            self.unknown(number, self.system.with_task, number, lone("a", 1, 1))

    def test_with_table(self):
        changed = self.system.with_table([7])
        self.assertEqual(changed.table, (7,))
        self.assertEqual(changed.tasks, tuple(self.tasks))
        self.assertEqual(self.system.table, (1, 0))
        with self.assertRaises(InvalidTable):
            self.system.with_table([])

    def test_only(self):
        self.assertEqual(self.system.only([2, 0]).tasks, (self.tasks[2], self.tasks[0]))
        self.assertEqual(self.system.only([2, 0]).table, (1, 0))
        self.assertEqual(self.system.only([]).tasks, ())
        self.assertEqual(self.system.only([0, 1, 2]).tasks, tuple(self.tasks))

    def test_only_with_a_number_twice(self):
        for numbers in ([0, 0], [1, 2, 1], [0] * 9):
            with self.assertRaises(InvalidSystem):
                self.system.only(numbers)

    def test_only_with_unknown_numbers(self):
        self.unknown(3, self.system.only, [3])
        self.unknown(-1, self.system.only, [0, -1, 3])
        self.unknown(3, self.system.only, [2, 3, -1])

    def test_unknown_numbers_go_before_numbers_that_stand_twice(self):
        self.unknown(4, self.system.only, [0, 0, 4, 5])

    def test_the_list_is_not_modified(self):
        numbers = [2, 1]
        self.system.only(numbers)
        self.assertEqual(numbers, [2, 1])


if __name__ == "__main__":
    unittest.main()
