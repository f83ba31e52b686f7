"""neverlate.notation: points 11 and 12."""

import unittest
from random import Random

from neverlate.errors import InvalidNotation
from neverlate.notation import format_system, parse_system
from neverlate.tasks import System, Task
from samples import engine_circle, lone, random_system

ONE_TASK = "table 1 0\ntask a\nkind k 2 5\nkind l 1 3\nway k l 4"


class Point11(unittest.TestCase):
    def test_example(self):
        system = System([Task("a", kinds=[("k", 2, 5)], ways=[("k", "k", 4)])], table=[1, 0])
        self.assertEqual(format_system(system), "table 1 0\ntask a\nkind k 2 5\nway k k 4")

    def test_without_tasks(self):
        self.assertEqual(format_system(System([], table=[0])), "table 0")
        self.assertEqual(format_system(System([], table=[1000000, 7])), "table 1000000 7")

    def test_everything_in_order(self):
        system = System([engine_circle(), lone("b", 1000, 9), lone("a", 1, 2, 30, 4)], table=[3])
        self.assertEqual(
            format_system(system).split("\n"),
            [
                "table 3",
                "task engine",
                "kind a 1 2",
                "kind b 2 3",
                "way a b 4",
                "way b a 2",
                "task b",
                "kind k 1000 9",
                "task a",
                "kind k 1 2",
                "way k k 30",
                "way k k 4",
            ],
        )


class Point12(unittest.TestCase):
    def line_of(self, text):
        with self.assertRaises(InvalidNotation) as caught:
            parse_system(text)
        return caught.exception.line

    def wrong(self, line, text):
        with self.subTest(text):
            self.assertEqual(self.line_of(text), line)

    def test_example(self):
        self.wrong(3, "table 1\ntask a\nway k k 4")

    def test_comes_back(self):
        system = parse_system(ONE_TASK)
        self.assertEqual(system.table, (1, 0))
        self.assertEqual(len(system.tasks), 1)
        self.assertEqual(system.tasks[0].name, "a")
        self.assertEqual(system.tasks[0].kinds, (("k", 2, 5), ("l", 1, 3)))
        self.assertEqual(system.tasks[0].ways, (("k", "l", 4),))

    def test_random_systems_come_back(self):
        random = Random(2)
        for _ in range(200):
            system = random_system(random, tasks=6, kinds=8, ways=16, most=1000)
            text = format_system(system)
            again = parse_system(text)
            self.assertEqual(again.table, system.table)
            self.assertEqual(
                [(task.name, task.kinds, task.ways) for task in again.tasks],
                [(task.name, task.kinds, task.ways) for task in system.tasks],
            )
            self.assertEqual(format_system(again), text)

    def test_the_greatest_system_comes_back(self):
        kinds = ["kind %s 1000 1000" % (letter * 12) for letter in "abcdefgh"]
        tasks = ["\n".join(["task t%d" % number] + kinds + ["way " + "a" * 12 + " " + "h" * 12 + " 1000"] * 16)
                 for number in range(6)]
        text = "\n".join(["table" + " 1000000" * 1001] + tasks)
        self.assertEqual(format_system(parse_system(text)), text)

    def test_keywords_are_names_too(self):
        text = "table 1\ntask task\nkind kind 1 1\nkind way 2 2\nway kind way 3\ntask table\nkind task 1 1"
        self.assertEqual(format_system(parse_system(text)), text)

    def test_the_empty_string(self):
        self.wrong(1, "")

    def test_the_line_of_the_table(self):
        for line in ("table", "table ", " table 1", "Table 1", "tables 1", "1", "task a", "table 1 ", "table  1",
                     "table 1\t", "table 1\r", "table\t1", "table a"):
            self.wrong(1, line)
            self.wrong(1, line + "\ntask a\nkind k 1 1")
        self.wrong(1, "\ntable 1")
        self.wrong(2, "table 1\ntable 1")

    def test_capacities(self):
        for word in ("-1", "+1", "01", "00", "1000001", "1.0", "", "\u0663", "\u00b2", "9" * 7, "1_0", "0x1"):
            self.wrong(1, "table 1 " + word + " 1")
        self.wrong(1, "table" + " 1" * 1002)
        self.assertEqual(parse_system("table" + " 1" * 1001).table, (1,) * 1001)
        self.assertEqual(parse_system("table 1000000 0").table, (1000000, 0))

    def test_words_of_thousands_of_digits(self):
        for digits in ("9" * 5000, "1" + "0" * 20000, "0" * 5000):
            self.wrong(1, "table " + digits)
            self.wrong(3, "table 1\ntask a\nkind k " + digits + " 1")
            self.wrong(3, "table 1\ntask a\nkind k 1 " + digits)
            self.wrong(6, ONE_TASK + "\nway k k " + digits)
        self.wrong(2, "table 1\ntask " + "9" * 5000)

    def test_a_newline_at_the_end(self):
        self.wrong(2, "table 1\n")
        self.wrong(6, ONE_TASK + "\n")
        self.wrong(6, ONE_TASK + "\n\n")

    def test_empty_lines(self):
        self.wrong(2, "table 1\n\ntask a\nkind k 1 1")
        self.wrong(3, "table 1\ntask a\n\nkind k 1 1")
        self.wrong(4, "table 1\ntask a\nkind k 1 1\n\nway k k 1")

    def test_only_a_newline_separates_lines(self):
        for separator in ("\r\n", "\r", "\x0b", "\x0c", "\x85", "\u2028"):
            self.assertEqual(self.line_of(separator.join(["table 1", "task a", "kind k 1 1"])), 1)

    def test_empty_words(self):
        for line in (" task a", "task a ", "task  a", "task "):
            self.wrong(2, "table 1\n" + line + "\nkind k 1 1")
        for line in (" kind m 1 1", "kind m 1 1 ", "kind m  1 1", "kind  m 1 1", "kind m 1  1", " way k k 1",
                     "way k k 1 ", "way  k k 1", "way k k  1", " ", "way k  1", "kind  1 1"):
            self.wrong(4, "table 1\ntask a\nkind k 1 1\n" + line)

    def test_words_too_many_or_too_few(self):
        for line in ("task", "task a b", "kind k 1 1", "way k k 1", "", "end", "tasks a"):
            self.wrong(2, "table 1\n" + line)
        for line in ("kind", "kind m", "kind m 1", "kind m 1 1 1", "way", "way k", "way k k", "way k k 1 1", "task",
                     "task b c", "other", "Kind m 1 1", "kind m k 1", "way k 1 k", "Way k k 1", "path k k 1",
                     "kinds m 1 1"):
            self.wrong(4, "table 1\ntask a\nkind k 1 1\n" + line)

    def test_signs_and_leading_zeros(self):
        for word in ("+1", "-1", "01", "0001", "1.", "1e1", "\u0661"):
            self.wrong(3, "table 1\ntask a\nkind k " + word + " 1")
            self.wrong(3, "table 1\ntask a\nkind k 1 " + word)
            self.wrong(4, "table 1\ntask a\nkind k 1 1\nway k k " + word)

    def test_integers_out_of_range(self):
        for word in ("0", "1001", "1000000", "9999999", "10000000"):
            self.wrong(3, "table 1\ntask a\nkind k " + word + " 1")
            self.wrong(3, "table 1\ntask a\nkind k 1 " + word)
            self.wrong(4, "table 1\ntask a\nkind k 1 1\nway k k " + word)

    def test_names_out_of_range(self):
        for name in ("A", "a" * 13, "a_b", "\u00e9"):
            self.wrong(2, "table 1\ntask " + name + "\nkind k 1 1")
            self.wrong(3, "table 1\ntask a\nkind " + name + " 1 1")

    def test_names_that_are_there_already(self):
        self.wrong(6, ONE_TASK + "\ntask a\nkind k 1 1")
        self.wrong(8, ONE_TASK + "\ntask b\nkind k 1 1\ntask a")
        self.wrong(4, "table 1\ntask a\nkind k 1 1\nkind k 2 2")

    def test_other_tasks_may_have_kinds_of_the_same_names(self):
        text = ONE_TASK + "\ntask b\nkind k 1 1"
        self.assertEqual(format_system(parse_system(text)), text)

    def test_a_task_without_kinds(self):
        self.wrong(3, "table 1\ntask a")
        self.wrong(3, "table 1\ntask a\n")
        self.wrong(3, "table 1\ntask a\ntask b\nkind k 1 1")
        self.wrong(7, ONE_TASK + "\ntask b")
        self.wrong(7, ONE_TASK + "\ntask b\nway k k 1")

    def test_a_kind_behind_a_way(self):
        self.wrong(6, ONE_TASK + "\nkind m 1 1")

    def test_ways_between_kinds_that_do_not_exist(self):
        for way in ("way k x 1", "way x k 1", "way a k 1"):
            self.wrong(6, ONE_TASK + "\n" + way)
        self.wrong(8, ONE_TASK + "\ntask b\nkind m 1 1\nway k k 1")

    def test_one_kind_too_many(self):
        lines = ["table 1", "task a"] + ["kind k%d 1 1" % number for number in range(8)]
        self.assertEqual(len(parse_system("\n".join(lines)).tasks[0].kinds), 8)
        self.wrong(11, "\n".join(lines + ["kind m 1 1"]))

    def test_one_way_too_many(self):
        lines = ["table 1", "task a", "kind k 1 1"] + ["way k k 1"] * 16
        self.assertEqual(len(parse_system("\n".join(lines)).tasks[0].ways), 16)
        self.wrong(20, "\n".join(lines + ["way k k 1"]))

    def test_one_task_too_many(self):
        lines = ["table 1"]
        for number in range(6):
            lines.extend(["task t%d" % number, "kind k 1 1"])
        self.assertEqual(len(parse_system("\n".join(lines)).tasks), 6)
        self.wrong(14, "\n".join(lines + ["task t6", "kind k 1 1"]))

    def test_the_first_wrong_line_is_meant(self):
        self.wrong(3, "table 1\ntask a\nkind k 0 1\nkind k 0 1\n\n")
        self.wrong(1, "table x\ntask a")


if __name__ == "__main__":
    unittest.main()
