"""neverlate.bench: points 75 to 80."""

import unittest
from random import Random

from neverlate.bench import Workbench, decide
from neverlate.errors import (
    InvalidSystem,
    InvalidTable,
    NameInUse,
    NeverlateError,
    NothingToRedo,
    NothingToUndo,
    UnknownName,
)
from neverlate.notation import format_system
from neverlate.tasks import System
from samples import engine_circle, lone


def names(bench):
    return (bench.task_names(), bench.table_names(), bench.question_names())


def seen(bench):
    """All that a workbench shows of what is defined on it, without an answer."""
    return names(bench) + ([format_system(bench.system(name)) for name in bench.question_names()],)


def filled():
    """A workbench with two tasks, two tables and two questions."""
    bench = Workbench()
    bench.set_task(lone("b", 2, 4, 5))
    bench.set_task(lone("a", 1, 3, 4))
    bench.set_table("fast", [2])
    bench.set_table("b", [1, 0])
    bench.ask("q", tasks=["a", "b"], table="fast", horizon=30)
    bench.ask("p", tasks=["b"], table="b", horizon=40)
    return bench


def undo_all(bench):
    """Take back all changes. Return what was seen before each of them was taken back."""
    states = []
    while True:
        states.append(seen(bench))
        try:
            bench.undo()
        except NothingToUndo:
            return states


def redo_all(bench):
    """Make all changes again. Return what was seen before each of them."""
    states = []
    while True:
        states.append(seen(bench))
        try:
            bench.redo()
        except NothingToRedo:
            return states


class Point75(unittest.TestCase):
    def test_example(self):
        bench = Workbench()
        bench.set_task(lone("engine", 3, 2, 9))
        bench.set_table("slow", [1])
        bench.ask("q", tasks=["engine"], table="slow", horizon=30)
        self.assertEqual(bench.answers(), [("q", ("late", 2, 0))])

    def test_nothing_is_defined_at_the_beginning(self):
        bench = Workbench()
        self.assertEqual(names(bench), ([], [], []))
        self.assertEqual(bench.answers(), [])
        self.assertEqual((bench.decided, bench.kept), (0, 0))

    def test_names_in_ascending_order(self):
        self.assertEqual(names(filled()), (["a", "b"], ["b", "fast"], ["p", "q"]))

    def test_lists_of_names_are_new_lists(self):
        bench = filled()
        for rows in names(bench):
            rows.clear()
        bench.answers().clear()
        self.assertEqual(names(bench), (["a", "b"], ["b", "fast"], ["p", "q"]))
        self.assertEqual(len(bench.answers()), 2)

    def test_a_task_a_table_and_a_question_of_the_same_name(self):
        bench = Workbench()
        bench.set_task(lone("x", 1, 1))
        bench.set_table("x", [1])
        bench.ask("x", tasks=["x"], table="x", horizon=20)
        self.assertEqual(names(bench), (["x"], ["x"], ["x"]))
        bench.drop("x")
        bench.remove_table("x")
        self.assertEqual(names(bench), (["x"], [], []))
        bench.set_table("x", [1])
        bench.remove_task("x")
        self.assertEqual(names(bench), ([], ["x"], []))

    def test_the_system_of_a_question(self):
        system = filled().system("q")
        self.assertEqual([task.name for task in system.tasks], ["a", "b"])
        self.assertEqual(system.table, (2,))

    def test_tasks_in_the_order_of_the_question(self):
        bench = filled()
        bench.ask("q", tasks=["b", "a"], table="b", horizon=30)
        self.assertEqual([task.name for task in bench.system("q").tasks], ["b", "a"])

    def test_a_question_without_tasks(self):
        bench = filled()
        bench.ask("q", tasks=[], table="b", horizon=1)
        self.assertEqual(bench.system("q").tasks, ())
        self.assertEqual(bench.answer("q"), ("never",))

    def test_a_question_is_about_what_is_defined_when_it_is_answered(self):
        bench = filled()
        self.assertEqual(bench.answer("p"), ("never",))
        bench.set_table("b", [0, 0, 5])
        self.assertEqual(bench.system("p").table, (0, 0, 5))
        self.assertEqual(bench.answer("p"), ("never",))
        bench.set_task(lone("b", 3, 2, 5))
        self.assertEqual(bench.system("p").tasks[0].kinds, (("k", 3, 2),))
        self.assertEqual(bench.answer("p"), ("late", 2, 0))
        self.assertEqual(names(bench), (["a", "b"], ["b", "fast"], ["p", "q"]))


class Point76(unittest.TestCase):
    def assert_refused(self, bench, error, name, function, *arguments, **more):
        """The call raises this error with this name and changes nothing."""
        before = seen(bench)
        with self.assertRaises(error) as caught:
            function(*arguments, **more)
        self.assertIs(type(caught.exception), error)
        if name is not None:
            self.assertEqual(caught.exception.name, name)
        self.assertEqual(seen(bench), before)

    def test_replacing(self):
        bench = filled()
        bench.set_task(engine_circle())
        bench.set_task(lone("a", 7, 8))
        bench.set_table("fast", (3, 4))
        bench.ask("q", tasks=["engine"], table="fast", horizon=20)
        self.assertEqual(names(bench), (["a", "b", "engine"], ["b", "fast"], ["p", "q"]))
        self.assertEqual(bench.system("q").table, (3, 4))
        self.assertEqual([task.name for task in bench.system("q").tasks], ["engine"])
        bench.remove_task("a")

    def test_changes_return_nothing(self):
        bench = Workbench()
        self.assertIsNone(bench.set_task(lone("a", 1, 1)))
        self.assertIsNone(bench.set_table("t", [1]))
        self.assertIsNone(bench.ask("q", tasks=[], table="t", horizon=1))
        self.assertIsNone(bench.undo())
        self.assertIsNone(bench.redo())
        self.assertIsNone(bench.drop("q"))
        self.assertIsNone(bench.remove_task("a"))
        self.assertIsNone(bench.remove_table("t"))
        self.assertIsNone(bench.change_all([]))

    def test_unknown_names(self):
        bench = filled()
        for function in (bench.remove_task, bench.remove_table, bench.drop, bench.system, bench.answer):
            for name in ("x", "", "fast" if function == bench.remove_task else "a"):
                self.assert_refused(bench, UnknownName, name, function, name)

    def test_names_in_use(self):
        bench = filled()
        self.assert_refused(bench, NameInUse, "a", bench.remove_task, "a")
        self.assert_refused(bench, NameInUse, "b", bench.remove_task, "b")
        self.assert_refused(bench, NameInUse, "fast", bench.remove_table, "fast")
        self.assert_refused(bench, NameInUse, "b", bench.remove_table, "b")
        bench.drop("q")
        bench.remove_task("a")
        bench.remove_table("fast")
        self.assert_refused(bench, NameInUse, "b", bench.remove_task, "b")
        bench.drop("p")
        bench.remove_task("b")
        bench.remove_table("b")
        self.assertEqual(names(bench), ([], [], []))

    def test_a_question_that_is_replaced_does_not_name_what_it_named(self):
        bench = filled()
        bench.ask("q", tasks=["b"], table="b", horizon=30)
        bench.remove_task("a")
        bench.remove_table("fast")
        self.assertEqual(names(bench), (["b"], ["b"], ["p", "q"]))

    def test_no_table(self):
        bench = filled()
        for table in ([], [-1], [1000001], [0] * 1002, [1, None]):
            self.assert_refused(bench, InvalidTable, None, bench.set_table, "fast", table)
        bench.set_table("fast", [1000000] * 1001)

    def test_the_order_of_the_errors_of_ask(self):
        bench = filled()
        ask = bench.ask
        self.assert_refused(bench, UnknownName, "x", ask, "r", tasks=["a", "x", "y", "a"], table="z", horizon=9)
        self.assert_refused(bench, UnknownName, "y", ask, "r", tasks=["y", "x"], table="fast", horizon=9)
        self.assert_refused(bench, UnknownName, "fast", ask, "r", tasks=["fast"], table="z", horizon=9)
        self.assert_refused(bench, UnknownName, "a", ask, "r", tasks=["a", "a"], table="a", horizon=9)
        self.assert_refused(bench, InvalidSystem, None, ask, "r", tasks=["a", "a"], table="b", horizon=9)
        self.assert_refused(bench, InvalidSystem, None, ask, "q", tasks=["a", "b", "a"], table="b", horizon=9)

    def test_too_many_tasks(self):
        bench = filled()
        more = ["t%d" % number for number in range(6)]
        for name in more:
            bench.set_task(lone(name, 1, 9))
        bench.ask("r", tasks=more, table="fast", horizon=9)
        self.assert_refused(bench, InvalidSystem, None, bench.ask, "r", tasks=more + ["a"], table="b", horizon=9)
        self.assert_refused(bench, UnknownName, "x", bench.ask, "r", tasks=more + ["x"], table="b", horizon=9)

    def test_an_error_does_not_touch_what_can_be_undone_and_redone(self):
        for call, arguments in (
            ("remove_task", ("x",)), ("remove_task", ("b",)), ("remove_table", ("x",)), ("remove_table", ("b",)),
            ("set_table", ("c", [])), ("drop", ("x",)), ("answer", ("x",)), ("system", ("x",)),
        ):
            bench = filled()
            bench.undo()
            bench.ask("p", tasks=["b"], table="b", horizon=50)
            bench.set_table("c", [5])
            bench.undo()
            before = seen(bench)
            with self.assertRaises(NeverlateError):
                getattr(bench, call)(*arguments)
            with self.assertRaises(NeverlateError):
                bench.ask("p", tasks=["x"], table="b", horizon=1)
            self.assertEqual(seen(bench), before)
            bench.redo()
            self.assertEqual(bench.table_names(), ["b", "c", "fast"])
            self.assertEqual(len(undo_all(bench)), 8)

    def test_lists_that_the_caller_changes_afterwards(self):
        bench = Workbench()
        table, tasks = [1, 2], ["a"]
        bench.set_task(lone("a", 1, 3, 4))
        bench.set_table("t", table)
        bench.ask("q", tasks=tasks, table="t", horizon=20)
        table.append(3)
        tasks.append("x")
        self.assertEqual(format_system(bench.system("q")), "table 1 2\ntask a\nkind k 1 3\nway k k 4")
        changes = [("set_table", "t", table), ("ask", "q", tasks[:1], "t", 30)]
        bench.change_all(changes)
        table.append(4)
        changes[1][2].append("x")
        self.assertEqual(bench.system("q").table, (1, 2, 3))
        self.assertEqual(len(bench.system("q").tasks), 1)


class Point77(unittest.TestCase):
    def test_nothing_to_undo_and_to_redo(self):
        bench = Workbench()
        for _ in range(2):
            with self.assertRaises(NothingToUndo):
                bench.undo()
            with self.assertRaises(NothingToRedo):
                bench.redo()
        bench.set_table("t", [1])
        with self.assertRaises(NothingToRedo):
            bench.redo()
        bench.undo()
        with self.assertRaises(NothingToUndo):
            bench.undo()
        bench.redo()
        self.assertEqual(bench.table_names(), ["t"])

    def test_each_kind_of_change(self):
        changes = [
            lambda bench: bench.set_task(lone("c", 1, 1)),
            lambda bench: bench.set_task(lone("b", 9, 9)),
            lambda bench: bench.set_table("c", [7]),
            lambda bench: bench.set_table("b", [8]),
            lambda bench: bench.ask("r", tasks=["a"], table="b", horizon=9),
            lambda bench: bench.ask("q", tasks=["b"], table="b", horizon=8),
            lambda bench: bench.drop("q"),
            lambda bench: bench.remove_task("d"),
            lambda bench: bench.remove_table("d"),
        ]
        for change in changes:
            bench = filled()
            bench.set_task(lone("d", 1, 1))
            bench.set_table("d", [1])
            before = seen(bench)
            change(bench)
            after = seen(bench)
            self.assertNotEqual(after, before)
            for _ in range(2):
                bench.undo()
                self.assertEqual(seen(bench), before)
                bench.redo()
                self.assertEqual(seen(bench), after)

    def test_the_horizon_of_a_question_comes_back(self):
        bench = filled()
        bench.set_task(lone("a", 4, 4, 4))
        bench.set_table("t", [1])
        bench.ask("r", tasks=["a"], table="t", horizon=12)
        bench.ask("r", tasks=["a"], table="t", horizon=13)
        self.assertEqual(bench.answer("r"), ("never",))
        bench.undo()
        self.assertEqual(bench.answer("r"), ("undecided", 12))
        bench.redo()
        self.assertEqual(bench.answer("r"), ("never",))

    def test_several_in_a_row(self):
        bench = filled()
        states = undo_all(bench)
        self.assertEqual(len(states), 7)
        self.assertEqual(states[-1], ([], [], [], []))
        self.assertEqual(redo_all(bench), states[::-1])
        self.assertEqual(undo_all(bench), states)

    def test_a_change_between_them(self):
        bench = filled()
        bench.undo()
        bench.undo()
        bench.set_table("c", [3])
        with self.assertRaises(NothingToRedo):
            bench.redo()
        self.assertEqual(names(bench), (["a", "b"], ["b", "c", "fast"], []))
        bench.undo()
        bench.redo()
        bench.undo()
        bench.undo()
        self.assertEqual(names(bench), (["a", "b"], ["fast"], []))

    def test_a_definition_that_replaces_an_entry_by_the_same_one(self):
        bench = filled()
        bench.undo()
        task = bench.system("q").tasks[0]
        for change in (
            lambda: bench.set_task(task),
            lambda: bench.set_table("fast", [2]),
            lambda: bench.ask("q", tasks=["a", "b"], table="fast", horizon=30),
        ):
            change()
            with self.assertRaises(NothingToRedo):
                bench.redo()
            before = names(bench)
            bench.undo()
            self.assertEqual(names(bench), before)
            bench.redo()
        self.assertEqual(len(undo_all(bench)), 5 + 3 + 1)

    def test_undo_and_redo_are_no_changes(self):
        bench = filled()
        for _ in range(3):
            bench.undo()
        bench.redo()
        bench.redo()
        bench.redo()
        self.assertEqual(seen(bench), seen(filled()))
        self.assertEqual(len(undo_all(bench)), 7)


class Point78(unittest.TestCase):
    CHANGES = [
        ("set_task", lone("c", 1, 9)),
        ("set_table", "c", [3]),
        ("ask", "r", ["c"], "c", 20),
        ("drop", "q"),
        ("remove_table", "fast"),
        ("remove_task", "a"),
    ]

    def test_does_what_the_methods_do(self):
        bench = filled()
        bench.change_all(self.CHANGES)
        other = filled()
        other.set_task(lone("c", 1, 9))
        other.set_table("c", [3])
        other.ask("r", tasks=["c"], table="c", horizon=20)
        other.drop("q")
        other.remove_table("fast")
        other.remove_task("a")
        self.assertEqual(seen(bench), seen(other))
        self.assertEqual(names(bench), (["b", "c"], ["b", "c"], ["p", "r"]))
        self.assertEqual(undo_all(bench), undo_all(other))

    def test_each_of_many_changes_is_undone_by_itself(self):
        bench = filled()
        bench.change_all(self.CHANGES)
        states = undo_all(bench)
        self.assertEqual(len(states), 6 + 6 + 1)
        self.assertEqual(states[1][0], ["a", "b", "c"])
        self.assertEqual(states[2][1], ["b", "c", "fast"])
        self.assertEqual(states[6], seen(filled()))
        self.assertEqual(redo_all(bench), states[::-1])

    def test_an_empty_list_changes_nothing(self):
        bench = filled()
        bench.undo()
        bench.change_all([])
        bench.redo()
        self.assertEqual(seen(bench), seen(filled()))
        self.assertEqual(len(undo_all(bench)), 7)

    def test_success_makes_it_impossible_to_redo(self):
        bench = filled()
        bench.undo()
        bench.change_all([("set_table", "c", [3])])
        with self.assertRaises(NothingToRedo):
            bench.redo()

    def test_a_list_whose_last_change_raises_an_error(self):
        for last, error in (
            (("remove_task", "c"), NameInUse), (("remove_task", "x"), UnknownName), (("drop", "q"), UnknownName),
            (("set_table", "d", []), InvalidTable), (("remove_table", "c"), NameInUse),
            (("ask", "s", ["c", "c"], "c", 20), InvalidSystem), (("ask", "s", ["c"], "fast", 20), UnknownName),
        ):
            bench = filled()
            bench.set_table("d", [9])
            bench.undo()
            with self.subTest(last), self.assertRaises(error):
                bench.change_all(self.CHANGES + [last])
            self.assertEqual(seen(bench), seen(filled()))
            bench.redo()
            self.assertEqual(bench.table_names(), ["b", "d", "fast"])
            self.assertEqual(len(undo_all(bench)), 8)

    def test_a_list_whose_first_change_raises_an_error(self):
        bench = filled()
        with self.assertRaises(NameInUse) as caught:
            bench.change_all([("remove_task", "a")] + self.CHANGES)
        self.assertEqual(caught.exception.name, "a")
        self.assertEqual(seen(bench), seen(filled()))

    def test_answers_that_were_kept_are_still_there_behind_an_error(self):
        bench = filled()
        bench.answers()
        with self.assertRaises(UnknownName):
            bench.change_all([("set_table", "fast", [2]), ("drop", "x")])
        bench.answers()
        self.assertEqual((bench.decided, bench.kept), (2, 2))
        bench.set_table("fast", [2])
        bench.answers()
        self.assertEqual((bench.decided, bench.kept), (3, 3))

    def test_the_list_is_not_modified(self):
        changes = list(self.CHANGES)
        filled().change_all(changes)
        self.assertEqual(changes, self.CHANGES)


class Point79(unittest.TestCase):
    def assert_counts(self, bench, name, decided, kept):
        bench.answer(name)
        self.assertEqual((bench.decided, bench.kept), (decided, kept))

    def test_the_same_question_twice(self):
        bench = filled()
        self.assert_counts(bench, "q", 1, 0)
        self.assert_counts(bench, "q", 1, 1)
        self.assert_counts(bench, "p", 2, 1)
        self.assertEqual(len(bench.answers()), 2)
        self.assertEqual((bench.decided, bench.kept), (2, 3))

    def test_two_questions_of_the_same_entries(self):
        bench = filled()
        bench.ask("r", tasks=["a", "b"], table="fast", horizon=30)
        self.assert_counts(bench, "q", 1, 0)
        self.assert_counts(bench, "r", 1, 1)
        self.assertEqual(bench.answer("q"), bench.answer("r"))

    def test_a_question_that_is_dropped_and_asked_again(self):
        bench = filled()
        self.assert_counts(bench, "q", 1, 0)
        bench.drop("q")
        bench.ask("r", tasks=["a", "b"], table="fast", horizon=30)
        self.assert_counts(bench, "r", 1, 1)

    def test_the_same_entry_back_behind_undo(self):
        bench = filled()
        self.assert_counts(bench, "q", 1, 0)
        bench.set_task(lone("a", 1, 3, 4))
        self.assert_counts(bench, "q", 2, 0)
        bench.undo()
        self.assert_counts(bench, "q", 2, 1)
        bench.redo()
        self.assert_counts(bench, "q", 2, 2)
        bench.undo()
        bench.set_task(lone("a", 1, 3, 4))
        self.assert_counts(bench, "q", 3, 2)

    def test_a_removed_entry_back_behind_undo(self):
        bench = filled()
        self.assert_counts(bench, "q", 1, 0)
        bench.change_all([("drop", "q"), ("remove_table", "fast"), ("remove_task", "a")])
        for _ in range(3):
            bench.undo()
        self.assert_counts(bench, "q", 1, 1)

    def test_a_new_entry_that_is_the_same_as_before(self):
        bench = filled()
        self.assert_counts(bench, "q", 1, 0)
        bench.set_table("fast", [2])
        self.assert_counts(bench, "q", 2, 0)
        bench.set_task(bench.system("q").tasks[1])
        self.assert_counts(bench, "q", 3, 0)
        bench.set_task(lone("c", 1, 1))
        bench.set_table("c", [1])
        self.assert_counts(bench, "q", 3, 1)

    def test_the_same_table_under_two_names(self):
        bench = filled()
        bench.set_table("c", [2])
        bench.ask("r", tasks=["a", "b"], table="c", horizon=30)
        self.assert_counts(bench, "q", 1, 0)
        self.assert_counts(bench, "r", 2, 0)

    def test_tasks_in_another_order(self):
        bench = filled()
        bench.ask("r", tasks=["b", "a"], table="fast", horizon=30)
        self.assert_counts(bench, "q", 1, 0)
        self.assert_counts(bench, "r", 2, 0)

    def test_another_horizon_and_other_tasks(self):
        bench = filled()
        self.assert_counts(bench, "q", 1, 0)
        bench.ask("q", tasks=["a", "b"], table="fast", horizon=31)
        self.assert_counts(bench, "q", 2, 0)
        bench.ask("q", tasks=["a"], table="fast", horizon=30)
        self.assert_counts(bench, "q", 3, 0)
        bench.ask("q", tasks=["a", "b"], table="fast", horizon=30)
        self.assert_counts(bench, "q", 3, 1)

    def test_answers_that_are_undecided_are_kept(self):
        bench = Workbench()
        bench.set_task(lone("a", 4, 4, 4))
        bench.set_table("t", [1])
        bench.ask("q", tasks=["a"], table="t", horizon=12)
        self.assertEqual(bench.answer("q"), ("undecided", 12))
        self.assertEqual(bench.answer("q"), ("undecided", 12))
        self.assertEqual((bench.decided, bench.kept), (1, 1))

    def test_definitions_and_unknown_questions_do_not_count(self):
        bench = filled()
        with self.assertRaises(UnknownName):
            bench.answer("x")
        bench.system("q")
        undo_all(bench)
        redo_all(bench)
        self.assertEqual((bench.decided, bench.kept), (0, 0))

    def test_the_counts_are_never_reset(self):
        bench = filled()
        bench.answers()
        bench.answers()
        undo_all(bench)
        self.assertEqual((bench.decided, bench.kept), (2, 2))
        redo_all(bench)
        bench.answers()
        self.assertEqual((bench.decided, bench.kept), (2, 4))


class Point80(unittest.TestCase):
    def test_decide(self):
        self.assertEqual(decide(System([engine_circle()], table=[1]), 20), ("never",))
        self.assertEqual(decide(System([engine_circle()], table=[0, 1]), 20), ("late", 3, 0))
        self.assertEqual(decide(System([lone("t", 4, 4, 4)], table=[1]), 12), ("undecided", 12))
        self.assertEqual(decide(System([lone("t", 4, 4, 4)], table=[1]), 13), ("never",))
        self.assertEqual(decide(System([lone("t", 2, 2)], table=[1, 1, 1, 0]), 9), ("late", 4, 2))

    def test_answers_in_ascending_order_of_the_names(self):
        bench = Workbench()
        bench.set_task(lone("t", 4, 4, 4))
        bench.set_task(lone("u", 2, 2))
        bench.set_table("one", [1])
        bench.set_table("gap", [1, 1, 1, 0])
        bench.ask("z", tasks=["t"], table="one", horizon=13)
        bench.ask("a10", tasks=["t"], table="one", horizon=12)
        bench.ask("a9", tasks=["u"], table="gap", horizon=9)
        bench.ask("0", tasks=[], table="gap", horizon=9)
        self.assertEqual(bench.answers(), [
            ("0", ("never",)), ("a10", ("undecided", 12)), ("a9", ("late", 4, 2)), ("z", ("never",)),
        ])
        self.assertEqual([bench.answer(name) for name in bench.question_names()], [row[1] for row in bench.answers()])


class Model:
    """A slow workbench that keeps a copy of all that is defined behind every change."""

    def __init__(self):
        self.states = [({}, {}, {})]
        self.now = 0
        self.definitions = 0
        self.answered = {}

    def change(self, section, name, value):
        """Put (a new number, value), or nothing if the value is None, under the name in the section."""
        state = tuple(dict(part) for part in self.states[self.now])
        state[section].pop(name, None)
        if value is not None:
            self.definitions += 1
            state[section][name] = (self.definitions, value)
        self.states = self.states[:self.now + 1] + [state]
        self.now += 1

    def key(self, name):
        tasks, tables, questions = self.states[self.now]
        asked, table, horizon = questions[name][1]
        return (tuple(tasks[task][0] for task in asked), tables[table][0], horizon)

    def system(self, name):
        tasks, tables, questions = self.states[self.now]
        asked, table, _ = questions[name][1]
        return System([tasks[task][1] for task in asked], table=tables[table][1])


class AgainstTheModel(unittest.TestCase):
    def one_change(self, random, model):
        """A random change that raises no error, as a tuple of change_all, or None."""
        tasks, tables, questions = model.states[model.now]
        word = random.choice(["set_task", "set_table", "ask", "ask", "drop", "remove_task", "remove_table"])
        name = random.choice("abc")
        if word == "set_task":
            return (word, lone(name, random.randint(1, 2), 4, random.randint(3, 5)))
        if word == "set_table":
            return (word, name, [random.randint(1, 2)])
        if word == "ask" and tables:
            asked = random.sample(sorted(tasks), random.randint(0, len(tasks)))
            return (word, name, asked, random.choice(sorted(tables)), random.choice((8, 30)))
        if word == "drop" and name in questions:
            return (word, name)
        used = [asked[1] for asked in questions.values()]
        if word == "remove_task" and name in tasks and not any(name in row[0] for row in used):
            return (word, name)
        if word == "remove_table" and name in tables and not any(name == row[1] for row in used):
            return (word, name)
        return None

    def tell(self, model, change):
        """Make the change on the model."""
        word = change[0]
        if word == "set_task":
            model.change(0, change[1].name, change[1])
        elif word == "ask":
            model.change(2, change[1], change[2:])
        elif word == "set_table":
            model.change(1, change[1], change[2])
        else:
            model.change({"remove_task": 0, "remove_table": 1, "drop": 2}[word], change[1], None)

    def act(self, random, bench, model):
        """Do the same at random with both."""
        roll = random.random()
        if roll < 0.2 and model.now > 0:
            bench.undo()
            model.now -= 1
        elif roll < 0.35 and model.now < len(model.states) - 1:
            bench.redo()
            model.now += 1
        else:
            change = self.one_change(random, model)
            if change is not None:
                bench.change_all([change])
                self.tell(model, change)

    def test_random_changes(self):
        random = Random(79)
        for _ in range(25):
            bench, model = Workbench(), Model()
            decided = kept = 0
            for _ in range(60):
                self.act(random, bench, model)
                tasks, tables, questions = model.states[model.now]
                self.assertEqual(names(bench), (sorted(tasks), sorted(tables), sorted(questions)))
                for name in sorted(questions):
                    self.assertEqual(format_system(bench.system(name)), format_system(model.system(name)))
                    key = model.key(name)
                    if key in model.answered:
                        kept += 1
                    else:
                        decided += 1
                        model.answered[key] = decide(model.system(name), key[2])
                    self.assertEqual(bench.answer(name), model.answered[key])
                    self.assertEqual((bench.decided, bench.kept), (decided, kept))


if __name__ == "__main__":
    unittest.main()
