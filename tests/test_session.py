"""neverlate.session: points 129 to 135."""

import unittest
from random import Random

from neverlate.bench import Workbench
from neverlate.notation import format_system
from neverlate.session import Session
from neverlate.tasks import System
from samples import engine_circle, random_system

ENGINE = "task engine\nkind a 1 2\nkind b 2 3\nway a b 4\nway b a 2\nend"
SETUP = ENGINE + "\ntable slow 0 1\ntable one 1\nask q 20 slow engine\nask safe 20 one engine\nask far 2 slow engine"


def invalid(number):
    return f"line {number}: invalid command"


class Sessions(unittest.TestCase):
    def setUp(self):
        self.session = Session()

    def says(self, text, *answers):
        with self.subTest(text):
            self.assertEqual(self.session.run(text), list(answers))

    def prepare(self):
        self.says(SETUP, *["ok"] * 7)


class Point129(Sessions):
    def test_example(self):
        self.says(
            "task engine\nkind a 3 2\nway a a 9\nend\ntable slow 1\nask q 30 slow engine\nanswers\nundo now",
            "ok", "ok", "ok", "ok", "q: late at 2 from 0", "line 8: invalid command",
        )

    def test_a_new_session(self):
        self.assertIsInstance(self.session.bench, Workbench)
        self.assertEqual(self.session.bench.task_names(), [])
        self.says("undo", "line 1: nothing to undo")
        self.assertIsNot(self.session.bench, Session().bench)

    def test_no_lines(self):
        self.says("")
        self.says("\n\n   \n")
        self.assertEqual(self.session.run("undo\n"), ["line 1: nothing to undo"])

    def test_lines_without_words_have_a_number(self):
        self.says("\n  \nundo\n\nredo\n", "line 3: nothing to undo", "line 5: nothing to redo")

    def test_the_numbers_begin_anew_in_each_call(self):
        self.says("x\ny", invalid(1), invalid(2))
        self.says("x", invalid(1))

    def test_spaces(self):
        self.says("  table   slow  1    2  ", "ok")
        self.assertEqual(self.session.run(" show   tables "), ["tables: slow"])

    def test_other_separators(self):
        self.says("table slow 1\r\nundo", invalid(1), "line 2: nothing to undo")
        self.says("table\tslow 1", invalid(1))
        self.says("undo\x0bundo", invalid(1))
        self.says("undo\u2028undo", invalid(1))


class Point131(Sessions):
    def test_each_command_does_what_the_method_does(self):
        self.prepare()
        bench = self.session.bench
        self.assertEqual(bench.task_names(), ["engine"])
        self.assertEqual(bench.table_names(), ["one", "slow"])
        self.assertEqual(bench.question_names(), ["far", "q", "safe"])
        self.assertEqual(
            format_system(bench.system("q")), format_system(System([engine_circle()], table=[0, 1]))
        )
        self.says("drop far", "ok")
        self.assertEqual(bench.question_names(), ["q", "safe"])
        self.says("drop q\nremove table slow", "ok", "ok")
        self.assertEqual(bench.table_names(), ["one"])
        self.says("drop safe\nremove task engine", "ok", "ok")
        self.assertEqual(bench.task_names(), [])
        self.says("undo\nundo", "ok", "ok")
        self.assertEqual((bench.task_names(), bench.question_names()), (["engine"], ["safe"]))
        self.says("redo", "ok")
        self.assertEqual(bench.question_names(), [])

    def test_the_same_name_again(self):
        self.prepare()
        self.says("table slow 5 6\nask q 9 slow", "ok", "ok")
        self.assertEqual(self.session.bench.system("q").table, (5, 6))
        self.assertEqual(self.session.bench.system("q").tasks, ())

    def test_a_question_without_tasks(self):
        self.says("table slow 0\nask q 1 slow\nanswer q", "ok", "ok", "q: never")

    def test_the_order_of_the_tasks(self):
        self.says("task b\nkind x 1 1\nend\ntask a\nkind x 1 1\nend\ntable t 1\nask q 9 t b a", *["ok"] * 6)
        self.assertEqual([task.name for task in self.session.bench.system("q").tasks], ["b", "a"])

    def test_the_greatest_capacity_and_the_longest_table(self):
        self.says("table t 0 1000000\nask q 9 t", "ok", "ok")
        self.assertEqual(self.session.bench.system("q").table, (0, 1000000))
        self.says("table t" + " 1" * 1001, "ok")
        self.assertEqual(self.session.bench.system("q").table, (1,) * 1001)


class Point132(Sessions):
    def test_a_block(self):
        self.says("task t", "ok")
        self.says("kind a 1 2")
        self.assertEqual(self.session.bench.task_names(), [])
        self.says("end", "ok")
        self.assertEqual(self.session.bench.task_names(), ["t"])

    def test_ways_before_kinds(self):
        self.says("task engine\nway a b 4\nkind a 1 2\nway b a 2\nkind b 2 3\nend\ntable t 1\nask q 9 t engine",
                  *["ok"] * 4)
        task = self.session.bench.system("q").tasks[0]
        self.assertEqual((task.kinds, task.ways), (engine_circle().kinds, engine_circle().ways))

    def test_blocks_that_make_no_task(self):
        kinds = "\n".join(f"kind k{number} 1 1" for number in range(9))
        ways = "\n".join(["way a a 1"] * 17)
        for lines in (
            "", "way a a 1\n", "kind a 0 1\n", "kind a 1 0\n", "kind a 1001 1\n", "kind a 1 1001\n",
            "kind a 9999999 1\n", "kind a 1 1\nkind a 2 2\n", "kind a 1 1\nway a b 1\n", "kind a 1 1\nway b a 1\n",
            "kind a 1 1\nway a a 0\n", "kind a 1 1\nway a a 1001\n", kinds + "\n", "kind a 1 1\n" + ways + "\n",
        ):
            number = lines.count("\n") + 2
            self.says(f"task t\n{lines}end\nshow tasks", "ok", f"line {number}: invalid task", "tasks:")
        # The blocks are closed, and nothing is there to be undone.
        self.says("undo", "line 1: nothing to undo")

    def test_a_block_that_makes_no_task_leaves_the_old_one(self):
        self.prepare()
        self.says("task engine\nkind a 0 1\nend\nanswer q", "ok", "line 3: invalid task", "q: late at 3 from 0")

    def test_the_greatest_block(self):
        kinds = "\n".join(f"kind k{number} 1000 1000" for number in range(8))
        ways = "\n".join(["way k0 k7 1000"] * 16)
        self.says(f"task abcdefghijkl\n{ways}\n{kinds}\nend\nshow tasks", "ok", "ok", "tasks: abcdefghijkl")

    def test_an_open_block_at_the_end_of_a_text(self):
        self.says("task t\nkind a 1 2", "ok")
        self.says("undo\nkind b 3 4", invalid(1))
        self.says("")
        self.says("end\nshow tasks", "ok", "tasks: t")
        self.session.run("table one 1\nask q 9 one t")
        self.assertEqual(self.session.bench.system("q").tasks[0].kinds, (("a", 1, 2), ("b", 3, 4)))

    def test_an_empty_line_inside(self):
        self.says("task t\n\nkind a 1 2\n   \nx\n\nend", "ok", invalid(5), "ok")

    def test_a_block_is_set_when_it_is_closed(self):
        self.prepare()
        self.says("task engine\nkind a 9 1", "ok")
        self.session.bench.undo()
        self.session.bench.redo()
        self.assertEqual(self.session.bench.answer("q"), ("late", 3, 0))
        self.says("end\nanswer q", "ok", "q: late at 1 from 0")


class Point133(Sessions):
    def test_answer(self):
        self.prepare()
        self.says("answer q\nanswer safe\nanswer far", "q: late at 3 from 0", "safe: never", "far: undecided up to 2")

    def test_an_answer_with_a_start(self):
        self.says(ENGINE + "\ntable t 1 1 0 0 0 0 0 0\nask q 20 t engine\nanswer q", *["ok"] * 4, "q: late at 4 from 2")

    def test_answers(self):
        self.says("answers")
        self.prepare()
        self.says("answers", "far: undecided up to 2", "q: late at 3 from 0", "safe: never")

    def test_show(self):
        self.prepare()
        self.says("task bell\nkind a 1 1\nend\ntask z0\nkind a 1 1\nend", *["ok"] * 4)
        self.says("show tasks", "tasks: bell engine z0")
        self.says("show tables", "tables: one slow")
        self.says("show questions", "questions: far q safe")

    def test_show_without_names(self):
        self.says("show tasks\nshow tables\nshow questions", "tasks:", "tables:", "questions:")

    def test_system(self):
        self.prepare()
        self.says("system q", "table 0 1", "task engine", "kind a 1 2", "kind b 2 3", "way a b 4", "way b a 2")
        self.says("table t 7 8\nask none 1 t\nsystem none", "ok", "ok", "table 7 8")

    def test_lines_that_only_show_change_nothing(self):
        self.prepare()
        self.says("undo", "ok")
        self.says("answer q\nanswers\nshow tasks\nshow tables\nshow questions\nsystem q\nredo",
                  "q: late at 3 from 0", "q: late at 3 from 0", "safe: never", "tasks: engine", "tables: one slow",
                  "questions: q safe", "table 0 1", "task engine", "kind a 1 2", "kind b 2 3", "way a b 4",
                  "way b a 2", "ok")

    def test_answers_are_kept(self):
        self.prepare()
        self.says("answer q\nanswer q", "q: late at 3 from 0", "q: late at 3 from 0")
        self.assertEqual((self.session.bench.decided, self.session.bench.kept), (1, 1))

    def test_new_lists(self):
        self.prepare()
        self.session.run("show tasks").append("more")
        self.says("show tasks", "tasks: engine")


class Point134(Sessions):
    def test_lines_of_a_block_outside_of_one(self):
        self.says("kind a 1 2\nway a a 1\nend", invalid(1), invalid(2), invalid(3))

    def test_commands_inside_a_block(self):
        self.says("task t\nkind a 1 2", "ok")
        for text in ("task u", "table t 1", "ask q 9 t", "drop q", "remove task t", "remove table t", "undo", "redo",
                     "answer q", "answers", "show tasks", "system q"):
            self.says(text, invalid(1))
        self.says("end\nshow tasks\nshow tables", "ok", "tasks: t", "tables:")

    def test_an_open_block_stays_open(self):
        self.says("task t\nend now\nkind a 1\nkind a 1 2\nway a b\nkind A 1 2\nend", "ok", invalid(2), invalid(3),
                  invalid(5), invalid(6), "ok")

    def test_a_word_too_many_and_one_too_few(self):
        self.prepare()
        lines = [
            "task", "task a b", "table t", "table", "ask p 9", "ask", "drop", "drop q q", "remove task",
            "remove task engine engine", "remove table", "remove table one one", "remove", "undo 1", "redo 1",
            "answer", "answer q q", "answers q", "show", "show tasks tasks", "system", "system q q",
        ]
        self.says("\n".join(lines), *[invalid(number + 1) for number in range(len(lines))])
        self.says("show tasks\nshow tables\nshow questions", "tasks: engine", "tables: one slow", "questions: far q safe")

    def test_it_is_decided_by_the_words_alone(self):
        # Nothing of these is defined, but the words are those of commands, and the other way round.
        self.says("answer q", "line 1: unknown name q")
        self.says("answer Q", invalid(1))
        self.says("answer abcdefghijkl", "line 1: unknown name abcdefghijkl")
        self.says("answer abcdefghijklm", invalid(1))
        self.says("table t 9999999", "line 1: invalid table")
        self.says("table t 10000000", invalid(1))
        self.says("table t 01", invalid(1))
        self.says("ask q 0 t\nask q 1001 t\nask q 1000 t\nask q 1 t", invalid(1), invalid(2),
                  "line 3: unknown name t", "line 4: unknown name t")

    def test_it_does_nothing(self):
        self.prepare()
        self.says("undo", "ok")
        self.says("undo now\ntable t 01\nask q 0 one\nx\nredo", invalid(1), invalid(2), invalid(3), invalid(4), "ok")


class Point135(Sessions):
    def test_unknown_names(self):
        self.prepare()
        self.says("drop no\nremove task no\nremove table no\nanswer no\nsystem no",
                  *[f"line {number}: unknown name no" for number in range(1, 6)])
        self.says("ask p 9 slow engine no1 no2\nask p 9 no3 engine\nask p 9 no3 no4",
                  "line 1: unknown name no1", "line 2: unknown name no3", "line 3: unknown name no4")

    def test_the_names_of_a_section_are_those_of_no_other_one(self):
        self.prepare()
        self.says("remove table engine\nremove task slow\ndrop slow\nanswer engine", "line 1: unknown name engine",
                  "line 2: unknown name slow", "line 3: unknown name slow", "line 4: unknown name engine")

    def test_names_in_use(self):
        self.prepare()
        self.says("\nremove task engine\n\nremove table one", "line 2: name in use engine", "line 4: name in use one")
        self.says("drop safe\ndrop far\nremove table one\nremove table slow", "ok", "ok", "ok",
                  "line 4: name in use slow")

    def test_invalid_tables(self):
        self.says("table t 1000001\ntable t 1000000", "line 1: invalid table", "ok")
        self.says("table t" + " 1" * 1002 + "\nshow tables", "line 1: invalid table", "tables: t")

    def test_invalid_systems(self):
        self.prepare()
        self.says("ask p 9 one engine engine", "line 1: invalid system")
        for number in range(6):
            self.says(f"task t{number}\nkind a 1 1\nend", "ok", "ok")
        self.says("ask p 9 one t0 t1 t2 t3 t4 t5 engine\nask p 9 one t0 t1 t2 t3 t4 t5", "line 1: invalid system", "ok")

    def test_invalid_tasks(self):
        self.says("task t\nend\ntask t\nkind a 1 1\nend", "ok", "line 2: invalid task", "ok", "ok")

    def test_nothing_to_undo_and_to_redo(self):
        self.says("undo\nredo\ntable t 1\nredo\nundo\nundo\nredo\nredo", "line 1: nothing to undo",
                  "line 2: nothing to redo", "ok", "line 4: nothing to redo", "ok", "line 6: nothing to undo", "ok",
                  "line 8: nothing to redo")

    def test_the_lines_after_it_are_done(self):
        self.says("drop no\ntable t 1\nanswer no\nshow tables", "line 1: unknown name no", "ok",
                  "line 3: unknown name no", "tables: t")

    def test_the_number_of_the_line_in_its_call(self):
        self.says("undo", "line 1: nothing to undo")
        self.says("\n\nundo", "line 3: nothing to undo")
        self.says("task t", "ok")
        self.says("\nend", "line 2: invalid task")

    def test_a_line_that_raises_an_error_changes_nothing(self):
        self.prepare()
        self.says("undo", "ok")
        self.says("remove task engine\ntable t 1000001\ntask t\nend\nask p 9 one no\nredo\nanswer far",
                  "line 1: name in use engine", "line 2: invalid table", "ok", "line 4: invalid task",
                  "line 5: unknown name no", "ok", "far: undecided up to 2")

    def test_undo_and_redo_of_what_a_session_did(self):
        self.prepare()
        self.says("task engine\nkind a 9 1\nend\nanswer q\nundo\nanswer q\nredo\nanswer q", "ok", "ok",
                  "q: late at 1 from 0", "ok", "q: late at 3 from 0", "ok", "q: late at 1 from 0")
        # Opening a block is no change, closing it is one: 1 task, 2 tables, 3 questions and the task again.
        self.says("undo\n" * 7 + "undo", *["ok"] * 7, "line 8: nothing to undo")
        self.says("show tasks\nshow tables\nshow questions", "tasks:", "tables:", "questions:")
        self.says("redo\n" * 7 + "redo", *["ok"] * 7, "line 8: nothing to redo")
        self.says("answers", "far: late at 1 from 0", "q: late at 1 from 0", "safe: late at 1 from 0")

    def test_opening_a_block_keeps_what_can_be_made_again(self):
        self.says("table t 1\nundo\ntask u", "ok", "ok", "ok")
        self.says("kind a 0 0\nend\nredo\nshow tables", "line 2: invalid task", "ok", "tables: t")

    def test_the_changes_of_the_bench_itself(self):
        self.prepare()
        self.session.bench.drop("q")
        self.says("show questions\nundo\nshow questions", "questions: far safe", "ok", "questions: far q safe")


class AgainstAWorkbench(Sessions):
    def test_systems_that_are_told_line_by_line(self):
        random = Random(133)
        seen = {}
        for _ in range(120):
            system = random_system(random)
            session = Session()
            horizon = random.randint(1, 30)
            rows = []
            for line in format_system(system).split("\n"):
                if line.startswith("table"):
                    rows.append(line.replace("table", "table t"))
                    continue
                if line.startswith("task") and len(rows) > 1:
                    rows.append("end")
                rows.append(line)
            if system.tasks:
                rows.append("end")
            names = [task.name for task in system.tasks]
            rows.append(" ".join(["ask", "q", str(horizon), "t"] + names))
            self.assertEqual(session.run("\n".join(rows)), ["ok"] * (2 + 2 * len(names)))
            self.assertEqual(session.run("system q"), format_system(system).split("\n"))
            bench = Workbench()
            bench.set_table("t", system.table)
            for task in system.tasks:
                bench.set_task(task)
            bench.ask("q", tasks=names, table="t", horizon=horizon)
            answer = bench.answer("q")
            if answer[0] == "late":
                line = "q: late at %d from %d" % answer[1:]
            else:
                line = "q: never" if answer[0] == "never" else "q: undecided up to %d" % horizon
            self.assertEqual(session.run("answer q"), [line])
            seen[answer[0]] = True
        self.assertEqual(len(seen), 3)


if __name__ == "__main__":
    unittest.main()
