"""neverlate.report: points 67 and 68."""

import unittest
from random import Random

from neverlate.demand import demands, system_demands
from neverlate.report import demand_table, report, task_table, verdict_line
from neverlate.supply import least_supplies
from neverlate.tasks import System, Task
from samples import engine_circle, lone, random_system


class Point67(unittest.TestCase):
    def test_example(self):
        system = System([Task("a", kinds=[("x", 2, 2)])], table=[1, 0])
        self.assertEqual(demand_table(system, length=2), [
            "length  a  demand  supply",
            "0       0       0       0",
            "1       0       0       0",
            "2       2       2       1",
        ])

    def test_the_table_of_the_tasks(self):
        long = Task("abcdefghijkl", kinds=[("k", 999, 1)], ways=[("k", "k", 1000)] * 12)
        system = System([engine_circle(), lone("t", 8, 1, 4), lone("u", 1, 1), long], table=[1])
        self.assertEqual(task_table(system), [
            "task          kinds  ways     share",
            "engine            2     2       1/2",
            "t                 1     1         2",
            "u                 1     0         0",
            "abcdefghijkl      1    12  999/1000",
        ])

    def test_the_table_of_the_tasks_without_tasks(self):
        self.assertEqual(task_table(System([], table=[1])), ["task  kinds  ways  share"])

    def test_names_that_are_shorter_than_the_heading(self):
        self.assertEqual(task_table(System([lone("t", 1, 1)], table=[1])), [
            "task  kinds  ways  share",
            "t         1     0      0",
        ])

    def test_names_of_tasks_as_headings(self):
        system = System([lone("abcdefghijkl", 1000, 1, 1), lone("b", 1000, 2, 1), lone("c", 1, 1)], table=[7])
        self.assertEqual(demand_table(system, length=2), [
            "length  abcdefghijkl     b  c  demand  supply",
            "0                  0     0  0       0       0",
            "1               1000     0  1    1001       7",
            "2               2000  1000  1    3001      14",
        ])

    def test_the_length_0(self):
        self.assertEqual(demand_table(System([lone("t", 1, 1)], table=[1]), length=0), [
            "length  t  demand  supply",
            "0       0       0       0",
        ])

    def test_the_demands_without_tasks(self):
        self.assertEqual(demand_table(System([], table=[1000000, 0]), length=3), [
            "length  demand   supply",
            "0            0        0",
            "1            0        0",
            "2            0  1000000",
            "3            0  1000000",
        ])

    def test_the_length_1000(self):
        lines = demand_table(System([lone("t", 1, 1, 1)], table=[1]), length=1000)
        self.assertEqual(len(lines), 1002)
        self.assertEqual(lines[0], "length     t  demand  supply")
        self.assertEqual(lines[-1], "1000    1000    1000    1000")

    def test_no_spaces_at_the_end_of_a_line(self):
        random = Random(67)
        for _ in range(50):
            system = random_system(random, tasks=3)
            for line in task_table(system) + demand_table(system, length=12):
                self.assertEqual(line, line.rstrip())
                self.assertNotEqual(line, "")

    def test_numbers(self):
        random = Random(68)
        for _ in range(50):
            system = random_system(random, tasks=3)
            rows = [line.split() for line in demand_table(system, length=12)[1:]]
            columns = [list(range(13))] + [demands(task, 12) for task in system.tasks]
            columns += [system_demands(system, 12), least_supplies(system.table, 12)]
            self.assertEqual(rows, [[str(column[n]) for column in columns] for n in range(13)])


class Point68(unittest.TestCase):
    def test_never_late(self):
        self.assertEqual(verdict_line(System([engine_circle()], table=[1]), horizon=20), "never late")
        self.assertEqual(verdict_line(System([], table=[0]), horizon=1), "never late")

    def test_late(self):
        system = System([engine_circle()], table=[0, 1])
        for horizon in (3, 1000):
            self.assertEqual(verdict_line(system, horizon=horizon), "late at 3")

    def test_undecided(self):
        system = System([lone("t", 4, 4, 4)], table=[1])
        self.assertEqual(verdict_line(system, horizon=12), "undecided up to 12")
        self.assertEqual(verdict_line(system, horizon=13), "never late")

    def test_a_report(self):
        system = System([engine_circle(), lone("t", 1, 9)], table=[0, 1])
        self.assertEqual(report(system, horizon=30, length=3), (
            "task    kinds  ways  share\n"
            "engine      2     2    1/2\n"
            "t           1     0      0\n"
            "\n"
            "length  engine  t  demand  supply\n"
            "0            0  0       0       0\n"
            "1            0  0       0       0\n"
            "2            1  0       1       1\n"
            "3            2  0       2       1\n"
            "\n"
            "late at 3\n"
        ))

    def test_a_report_without_tasks(self):
        self.assertEqual(report(System([], table=[3]), horizon=1, length=0), (
            "task  kinds  ways  share\n"
            "\n"
            "length  demand  supply\n"
            "0            0       0\n"
            "\n"
            "never late\n"
        ))

    def test_the_length_that_is_not_passed(self):
        system = System([lone("t", 4, 4, 4)], table=[1])
        self.assertEqual(report(system, horizon=9), report(system, horizon=9, length=10))
        self.assertEqual(len(report(system, horizon=9).split("\n")), 2 + 1 + 12 + 1 + 1 + 1)

    def test_a_newline_at_the_end_of_each_line(self):
        system = System([lone("t", 4, 4, 4)], table=[1])
        text = report(system, horizon=12)
        self.assertTrue(text.endswith("\nundecided up to 12\n"))
        lines = task_table(system) + [""] + demand_table(system, length=10) + [""]
        self.assertEqual(text, "".join(line + "\n" for line in lines + ["undecided up to 12"]))


if __name__ == "__main__":
    unittest.main()
