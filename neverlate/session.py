"""Sessions: a workbench that is used by lines of text."""

from neverlate.bench import Workbench
from neverlate.commands import is_block_line, is_command, split_words
from neverlate.errors import InvalidSystem, InvalidTable, InvalidTask, NameInUse
from neverlate.errors import NothingToRedo, NothingToUndo, UnknownName
from neverlate.notation import format_system
from neverlate.tasks import Task

DONE = "ok"


class Block:
    """The lines of a task that is not closed yet."""

    def __init__(self, name):
        self.name = name
        self.kinds = []
        self.ways = []

    def take(self, words):
        """Add the kind or the way that the words tell."""
        if words[0] == "kind":
            self.kinds.append((words[1], int(words[2]), int(words[3])))
        else:
            self.ways.append((words[1], words[2], int(words[3])))

    def closed(self):
        """Return the task that the lines make."""
        return Task(self.name, kinds=self.kinds, ways=self.ways)


class Session:
    """Does lines of text on a workbench and answers them by lines of text."""

    def __init__(self):
        self.bench = Workbench()
        # The block that is not closed yet, or None.
        self._block = None

    def run(self, text):
        """Do the lines of the text in order. Return all lines that they answer."""
        answers = []
        for number, line in enumerate(text.split("\n"), start=1):
            words = split_words(line)
            if words:
                answers.extend(self._answers_of(number, words))
        return answers

    def _answers_of(self, number, words):
        """Do the line of this number. Return the lines that it answers."""
        if not self._may_stand(words):
            return [f"line {number}: invalid command"]
        try:
            return self._do(words)
        except UnknownName as unknown:
            fault = f"unknown name {unknown.name}"
        except NameInUse as taken:
            fault = f"name in use {taken.name}"
        except InvalidTask:
            fault = "invalid task"
        except InvalidTable:
            fault = "invalid table"
        except InvalidSystem:
            fault = "invalid system"
        except NothingToUndo:
            fault = "nothing to undo"
        except NothingToRedo:
            fault = "nothing to redo"
        return [f"line {number}: {fault}"]

    def _may_stand(self, words):
        """True if a line of these words may stand here."""
        if self._block is None:
            return is_command(words)
        return is_block_line(words)

    def _do(self, words):
        """Do a line that may stand here. Return the lines that it answers."""
        if self._block is not None:
            return self._do_in_block(words)
        word = words[0]
        if word == "answer":
            return [_answer_line(words[1], self.bench.answer(words[1]))]
        if word == "answers":
            return [_answer_line(name, answer) for name, answer in self.bench.answers()]
        if word == "show":
            return [" ".join([f"{words[1]}:"] + self._names(words[1]))]
        if word == "system":
            return format_system(self.bench.system(words[1])).split("\n")
        if word == "task":
            self._block = Block(words[1])
        else:
            self._change(words)
        return [DONE]

    def _do_in_block(self, words):
        """Do a line of the block that is open. Return the lines that it answers."""
        block = self._block
        if words[0] != "end":
            block.take(words)
            return []
        # The block is closed even if its lines make no task.
        self._block = None
        self.bench.set_task(block.closed())
        return [DONE]

    def _change(self, words):
        """Make the change of the workbench that the words tell."""
        word = words[0]
        if word == "table":
            self.bench.set_table(words[1], [int(units) for units in words[2:]])
        elif word == "ask":
            self.bench.ask(words[1], tasks=words[4:], table=words[3], horizon=int(words[2]))
        elif word == "drop":
            self.bench.drop(words[1])
        elif word == "remove" and words[1] == "task":
            self.bench.remove_task(words[2])
        elif word == "remove":
            self.bench.remove_table(words[2])
        elif word == "undo":
            self.bench.undo()
        elif word == "redo":
            self.bench.redo()

    def _names(self, section):
        """Return the names of the tasks, the tables or the questions."""
        if section == "tasks":
            return self.bench.task_names()
        if section == "tables":
            return self.bench.table_names()
        return self.bench.question_names()


def _answer_line(name, answer):
    """Return the line that shows the answer of the question."""
    if answer[0] == "late":
        return f"{name}: late at {answer[1]} from {answer[2]}"
    if answer[0] == "undecided":
        return f"{name}: undecided up to {answer[1]}"
    return f"{name}: never"
