"""The workbench: named tasks, tables and questions, and the answers of the questions."""

from neverlate.desk import QUESTIONS, TABLES, TASKS, Desk
from neverlate.errors import Undecided
from neverlate.misses import first_miss


class Workbench:
    """Keeps tasks, tables and questions; changes can be taken back, answers are kept."""

    def __init__(self):
        self.decided = 0
        self.kept = 0
        self._desk = Desk()
        self._answers = {}

    def set_task(self, task):
        """Define the task under its name."""
        self._desk.set_task(task)

    def remove_task(self, name):
        """Remove the task."""
        self._desk.remove_task(name)

    def set_table(self, name, table):
        """Define a copy of the table under the name."""
        self._desk.set_table(name, table)

    def remove_table(self, name):
        """Remove the table."""
        self._desk.remove_table(name)

    def ask(self, name, *, tasks, table, horizon):
        """Define the question."""
        self._desk.ask(name, tasks, table, horizon)

    def drop(self, name):
        """Remove the question."""
        self._desk.drop(name)

    def undo(self):
        """Take back the last change that is not taken back."""
        self._desk.undo()

    def redo(self):
        """Make the change again that was taken back last."""
        self._desk.redo()

    def change_all(self, changes):
        """Make all the changes, or none of them if one raises an error."""
        desk = self._desk.copied()
        for change in changes:
            _make(desk, change)
        self._desk = desk

    def task_names(self):
        """Return the names of the tasks in ascending order."""
        return self._desk.names(TASKS)

    def table_names(self):
        """Return the names of the tables in ascending order."""
        return self._desk.names(TABLES)

    def question_names(self):
        """Return the names of the questions in ascending order."""
        return self._desk.names(QUESTIONS)

    def system(self, name):
        """Return the system that the question is about now."""
        return self._desk.system(name)

    def answer(self, name):
        """Return the answer of the question."""
        horizon = self._desk.question(name).horizon
        key = (self._desk.numbers(name), horizon)
        if key in self._answers:
            self.kept += 1
        else:
            self._answers[key] = decide(self._desk.system(name), horizon)
            self.decided += 1
        return self._answers[key]

    def answers(self):
        """Return the tuples (name, answer) of all questions, in ascending order of the names."""
        return [(name, self.answer(name)) for name in self.question_names()]


def decide(system, horizon):
    """Return the answer for a system: ("never",), ("late", instant, start) or ("undecided", horizon)."""
    try:
        miss = first_miss(system, horizon=horizon)
    except Undecided:
        return ("undecided", horizon)
    if miss is None:
        return ("never",)
    return ("late", miss.instant, miss.start)


def _make(desk, change):
    """Make one change, a tuple of the name of the method and its arguments."""
    word = change[0]
    if word == "set_task":
        desk.set_task(change[1])
    elif word == "remove_task":
        desk.remove_task(change[1])
    elif word == "set_table":
        desk.set_table(change[1], change[2])
    elif word == "remove_table":
        desk.remove_table(change[1])
    elif word == "ask":
        _, name, tasks, table, horizon = change
        desk.ask(name, tasks, table, horizon)
    elif word == "drop":
        desk.drop(change[1])
