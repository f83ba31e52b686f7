"""What is defined on a workbench, and the changes of it that can be taken back."""

from neverlate.errors import InvalidSystem, InvalidTable, NameInUse, NothingToRedo, NothingToUndo, UnknownName
from neverlate.rules import are_task_names, is_table
from neverlate.tasks import System

TASKS = "tasks"
TABLES = "tables"
QUESTIONS = "questions"


class Question:
    """The names of tasks and of a table, and a horizon."""

    def __init__(self, tasks, table, horizon):
        self.tasks = tuple(tasks)
        self.table = table
        self.horizon = horizon


class Desk:
    """Tasks, tables and questions under their names, with all changes that led there."""

    def __init__(self):
        self.sections = {TASKS: {}, TABLES: {}, QUESTIONS: {}}
        # A change is (section, name, entry before, entry after); None stands for no entry.
        self.done = []
        self.undone = []
        # Entries are tuples (number, what is defined). No two definitions have the same number.
        self.definitions = 0

    def copied(self):
        """Return a desk in the same state that goes its own way."""
        other = Desk()
        other.sections = {section: dict(self.sections[section]) for section in self.sections}
        other.done = list(self.done)
        other.undone = list(self.undone)
        other.definitions = self.definitions
        return other

    def names(self, section):
        """Return the names of a section in ascending order."""
        return sorted(self.sections[section])

    def set_task(self, task):
        """Define the task under its name."""
        self._define(TASKS, task.name, task)

    def remove_task(self, name):
        """Remove the task."""
        self._entry(TASKS, name)
        if any([name in question.tasks for question in self._questions()]):
            raise NameInUse(name)
        self._change(TASKS, name, None)

    def set_table(self, name, table):
        """Define a copy of the table under the name."""
        if not is_table(table):
            raise InvalidTable("the capacities are no table")
        self._define(TABLES, name, tuple(table))

    def remove_table(self, name):
        """Remove the table."""
        self._entry(TABLES, name)
        if any([name == question.table for question in self._questions()]):
            raise NameInUse(name)
        self._change(TABLES, name, None)

    def ask(self, name, tasks, table, horizon):
        """Define the question."""
        for task_name in tasks:
            self._entry(TASKS, task_name)
        self._entry(TABLES, table)
        if not are_task_names(tasks):
            raise InvalidSystem("too many tasks, or two of the same name")
        self._define(QUESTIONS, name, Question(tasks, table, horizon))

    def drop(self, name):
        """Remove the question."""
        self._entry(QUESTIONS, name)
        self._change(QUESTIONS, name, None)

    def undo(self):
        """Take back the last change that is not taken back."""
        if not self.done:
            raise NothingToUndo("there is no change to take back")
        change = self.done.pop()
        section, name, before, _ = change
        self._put(section, name, before)
        self.undone.append(change)

    def redo(self):
        """Make the change again that was taken back last."""
        if not self.undone:
            raise NothingToRedo("there is no change to make again")
        change = self.undone.pop()
        section, name, _, after = change
        self._put(section, name, after)
        self.done.append(change)

    def system(self, name):
        """Return the system that the question is about now."""
        question = self.question(name)
        tasks = [self._entry(TASKS, task_name)[1] for task_name in question.tasks]
        return System(tasks, table=self._entry(TABLES, question.table)[1])

    def numbers(self, name):
        """Return the numbers of the entries of the tasks of the question, in their order, and of its table."""
        question = self.question(name)
        tasks = [self._entry(TASKS, task_name)[0] for task_name in question.tasks]
        return (tuple(tasks), self._entry(TABLES, question.table)[0])

    def question(self, name):
        """Return the question of this name."""
        return self._entry(QUESTIONS, name)[1]

    def _questions(self):
        """Return all questions."""
        return [question for _, question in self.sections[QUESTIONS].values()]

    def _entry(self, section, name):
        """Return the entry of this name, or raise UnknownName."""
        if name not in self.sections[section]:
            raise UnknownName(name)
        return self.sections[section][name]

    def _define(self, section, name, defined):
        """Put a new entry under the name."""
        self.definitions += 1
        self._change(section, name, (self.definitions, defined))

    def _change(self, section, name, entry):
        """Put the entry, or None for no entry, under the name, as a change that can be taken back."""
        self.done.append((section, name, self.sections[section].get(name), entry))
        self.undone.clear()
        self._put(section, name, entry)

    def _put(self, section, name, entry):
        """Put the entry, or None for no entry, under the name."""
        if entry is None:
            del self.sections[section][name]
        else:
            self.sections[section][name] = entry
