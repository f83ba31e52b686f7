"""The written form of systems."""

from neverlate.errors import InvalidNotation
from neverlate.rules import MOST_CAPACITY, are_kinds, are_task_names, are_ways, is_name, is_table
from neverlate.tasks import System, Task
from neverlate.words import read_number


def format_system(system):
    """Return the written form of a system."""
    lines = [_line("table", system.table)]
    for task in system.tasks:
        lines.append(_line("task", (task.name,)))
        lines.extend([_line("kind", kind) for kind in task.kinds])
        lines.extend([_line("way", way) for way in task.ways])
    return "\n".join(lines)


def parse_system(text):
    """Return the system whose written form is the text."""
    lines = text.split("\n")
    table = _read_table(lines[0].split(" "))
    if not is_table(table):
        raise InvalidNotation(1)
    reader = Reader()
    for number, line in enumerate(lines[1:], start=2):
        if not reader.take(line.split(" ")):
            raise InvalidNotation(number)
    if not reader.may_end():
        raise InvalidNotation(len(lines) + 1)
    return System(reader.finished(), table=table)


class Draft:
    """What the lines of a task have told so far."""

    def __init__(self, name):
        self.name = name
        self.kinds = []
        self.ways = []

    def take_kind(self, kind):
        """Add the kind. Return False if it cannot stand there."""
        if self.ways or not are_kinds(self.kinds + [kind]):
            return False
        self.kinds.append(kind)
        return True

    def take_way(self, way):
        """Add the way. Return False if it cannot stand there."""
        if not are_ways(self.ways + [way], self.kinds):
            return False
        self.ways.append(way)
        return True


class Reader:
    """Reads the lines behind the table, each by what the lines before it allow."""

    def __init__(self):
        self.drafts = []

    def take(self, words):
        """Read the words of the next line. Return False if it cannot stand there."""
        if words[0] == "task" and len(words) == 2:
            return self.take_task(words[1])
        if words[0] == "kind" and len(words) == 4 and self.drafts:
            return self.drafts[-1].take_kind((words[1], _integer(words[2]), _integer(words[3])))
        if words[0] == "way" and len(words) == 4 and self.drafts:
            return self.drafts[-1].take_way((words[1], words[2], _integer(words[3])))
        return False

    def take_task(self, name):
        """Begin the task of this name. Return False if it cannot stand there."""
        names = [draft.name for draft in self.drafts] + [name]
        if not self.may_end() or not is_name(name) or not are_task_names(names):
            return False
        self.drafts.append(Draft(name))
        return True

    def may_end(self):
        """True if the last task, if there is one, has a kind."""
        return not self.drafts or len(self.drafts[-1].kinds) > 0

    def finished(self):
        """Return the tasks that were read."""
        return [Task(draft.name, kinds=draft.kinds, ways=draft.ways) for draft in self.drafts]


def _line(keyword, values):
    return " ".join([keyword] + [str(value) for value in values])


def _read_table(words):
    if words[0] != "table":
        return []
    return [_integer(word) for word in words[1:]]


def _integer(word):
    """Return the integer that the word writes, or None, which no rule takes for an integer."""
    return read_number(word, len(str(MOST_CAPACITY)))
