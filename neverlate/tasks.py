"""Tasks and the systems that they make."""

from neverlate.errors import InvalidSystem, InvalidTable, InvalidTask, UnknownName, UnknownNumber
from neverlate.rules import are_kinds, are_task_names, are_ways, is_name, is_table


class Task:
    """A task: kinds of jobs, and ways that tell which kind may follow which one."""

    def __init__(self, name, *, kinds, ways=()):
        if not is_name(name):
            raise InvalidTask("the name is no name")
        if not are_kinds(kinds):
            raise InvalidTask("the kinds break a rule")
        if not are_ways(ways, kinds):
            raise InvalidTask("the ways break a rule")
        self.name = name
        self.kinds = tuple(kinds)
        self.ways = tuple(ways)

    @property
    def longest_distance(self):
        """The greatest distance of a way, or 0 without ways."""
        return max([way[2] for way in self.ways], default=0)

    @property
    def latest_deadline(self):
        """The greatest deadline of a kind."""
        return max([kind[2] for kind in self.kinds])

    def kind_number(self, kind_name):
        """Return the number of the kind."""
        for number, kind in enumerate(self.kinds):
            if kind[0] == kind_name:
                return number
        raise UnknownName(kind_name)

    def cost(self, kind_name):
        """Return the cost of the kind."""
        return self._kind(kind_name)[1]

    def deadline(self, kind_name):
        """Return the deadline of the kind."""
        return self._kind(kind_name)[2]

    def ways_from(self, kind_name):
        """Return the tuples (target, distance) of the ways from the kind, in their order."""
        source = self._kind(kind_name)[0]
        return [(way[1], way[2]) for way in self.ways if way[0] == source]

    def _kind(self, kind_name):
        return self.kinds[self.kind_number(kind_name)]


class System:
    """Tasks on one processor, whose slots have the capacities of a table."""

    def __init__(self, tasks, *, table):
        if not is_table(table):
            raise InvalidTable("the capacities are no table")
        if not are_task_names([task.name for task in tasks]):
            raise InvalidSystem("too many tasks, or two of the same name")
        self.tasks = tuple(tasks)
        self.table = tuple(table)

    def task_number(self, task_name):
        """Return the number of the task with this name."""
        for number, task in enumerate(self.tasks):
            if task.name == task_name:
                return number
        raise UnknownName(task_name)

    def task_at(self, number):
        """Return the task of this number."""
        self._check_number(number)
        return self.tasks[number]

    def with_task(self, number, task):
        """Return a system with this task in the place of the task of this number."""
        self._check_number(number)
        tasks = list(self.tasks)
        tasks[number] = task
        return System(tasks, table=self.table)

    def with_table(self, table):
        """Return a system with the same tasks and this table."""
        return System(self.tasks, table=table)

    def only(self, numbers):
        """Return a system with the tasks of these numbers alone, in the order of the list."""
        for number in numbers:
            self._check_number(number)
        return System([self.tasks[number] for number in numbers], table=self.table)

    def _check_number(self, number):
        # Python would take a negative number for one that counts from the end.
        if not 0 <= number < len(self.tasks):
            raise UnknownNumber(number)
